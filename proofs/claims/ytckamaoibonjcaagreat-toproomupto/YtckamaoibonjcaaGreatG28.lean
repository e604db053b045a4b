/- What is proved here: plain facts and contracts that the claimed theorem stands on. No condition but those that each names. -/
import Derived.Test.YtckamaoibonjcaaGreatG27
namespace Go.Proofs.YtckamaoibonjcaaGreat
open Go.RowKit
open Go.RowKit Go.Maps
theorem Hy{a d:Type}{l r:List a}(c:List.Sublist l r)(f:a->List d):List.Sublist (l.flatMap f) (r.flatMap f):=by
 induction c with
 | slnil=>exact List.Sublist.refl _
 | cons b _ ih=>
  simp only[bv];exact ih.trans (List.sublist_append_right _ _)
 | cons_cons b _ ih=>
  simp only[bv];exact List.Sublist.append (List.Sublist.refl _) ih
theorem Lg{b:Type}{l r:List b}(c:List.Sublist l r)(f:b->Int)(d:∀a,0<=f a):(l.map f).sum<=(r.map f).sum:=by
 induction c with
 | slnil=>exact iD _
 | cons a _ ih=>
  simp only[aH,bq];have:=d a;omega
 | cons_cons a _ ih=>
  simp only[aH,bq];omega
theorem jz.erase{N:Nat}{ws:List Wd}{nm:List ByteArray}{room:Int}{d:Wd}{vs:List Wd}{s:Tm (N+1)}{ms:List (Tm (N+1))}(l:jz (N+1) ws nm room (d::vs) (s::ms))(i:Nat):jz (N+1) ws nm room (d::vs.eraseIdx i) (s::ms.eraseIdx i):=by
 obtain⟨f,o,p,v,q,r,t,u⟩:=l;have m:vs.length=ms.length:=by simpa using f.1
 have n:List.Sublist (d::vs.eraseIdx i) (d::vs):=(List.eraseIdx_sublist vs i).cons_cons d;have j:List.Sublist (s::ms.eraseIdx i) (s::ms):=(List.eraseIdx_sublist ms i).cons_cons s;refine⟨⟨by simp[List.length_eraseIdx,m],λc g e b a=>?_⟩,(Hy n _).nodup o,λe a=>p e (j.subset a),?_,q,r,t,u⟩
 ·cases c with
  | zero=>
   simp only[cG,j9]at b a;exact f.2 0 g e (by simp[b]) (by simp[a])
  | succ c=>
   simp only[cT,List.getElem?_eraseIdx]at b a;by_cases h:c<i
   ·rw[if_pos h]at b a;exact f.2 (c+1) g e (by simpa using b) (by simpa using a)
   ·rw[if_neg h]at b a;exact f.2 (c+2) g e (by simpa using b) (by simpa using a)
 ·have:=Lg j (sz (N+1)) λk=>(ey (N+1) k).1;omega
section
variable {base pb:Nat} {name:ByteArray} {room:Int} {N:Nat} {s:Tm (N+1)} {ms:List (Tm (N+1))} {nk:Nat} {M:Nat->Prop} {w:World} {ws:List Wd} {nm:List ByteArray} {sv:Wd} {vs:List Wd} {ma:Option Addr} {mc:Nat} {Mh:Nat->Prop}
theorem cr.dropped(a:cr base pb name room (N+1) s ms [] nk M w ws nm sv vs ma mc Mh)(i:Nat){w1:World}{g:Nat}(x:¬Mh g)(l:bi (λb=>b=g) w w1)(v:jl Mh ma (vs.eraseIdx i) mc w1)(u:M g):cr base pb name room (N+1) s (ms.eraseIdx i) [] nk M (w1.setCell ⟨pb,7,none⟩ (.slice ma (vs.eraseIdx i).length mc)) ws nm sv (vs.eraseIdx i) ma mc Mh/\bL M w (w1.setCell ⟨pb,7,none⟩ (.slice ma (vs.eraseIdx i).length mc)):=by
 obtain⟨m,z⟩:=a.box0;have q:du base (PL pb name sv (.slice ma vs.length mc)) room ws nm Mh w1:=a.heap.kept (iR l) λb r _ c=>x (by rw[<-c];exact r);have k:=aZ w1 pb 7 (.slice ma (vs.eraseIdx i).length mc);have j:=a.has;simp only[bS,dY]at j;refine⟨⟨q.turn k λB A mp t=>?_,?_,?_,?_,a.names,a.inM,a.mailM⟩,?_⟩
 ·unfold World.setCell;simp[bC,t]
 ·rcases v with d|⟨h,y,n,o,e,f,p⟩
  ·exact ae d
  ·exact af ⟨h,y,n,o,e,(k.block h (aA.1 f).1 λd=>e (by rw[d];exact m)).trans f,p⟩
 ·simp only[bS,dY];exact j.erase i
 ·simp[List.length_eraseIdx,a.len]
 ·refine bL.trans ((iR l).mono λb c=>?_) k λb _ c=>?_
  ·rw[c];exact u
  ·rw[c];exact a.inM pb m
theorem cr.delete(a:cr base pb name room (N+1) s ms [] nk M w ws nm sv vs ma mc Mh)(i:Nat)(H:i<ms.length)(G:ms.length<=1000):ah 71 #[.slice ma vs.length mc,.int .i64 i,.int .i64 ((i:Int)+1)] w λe w'=>e=.returned (.slice ma (vs.eraseIdx i).length mc)/\Hid (bi M w w'/\w'.cell? ⟨pb,7,none⟩=some (.slice ma vs.length mc)/\w'.frozen? ⟨pb,7,none⟩=false/\ cr base pb name room (N+1) s (ms.eraseIdx i) [] nk M (w'.setCell ⟨pb,7,none⟩ (.slice ma (vs.eraseIdx i).length mc)) ws nm sv (vs.eraseIdx i) ma mc Mh/\bL M w (w'.setCell ⟨pb,7,none⟩ (.slice ma (vs.eraseIdx i).length mc))):=by
 have k:=a.len;obtain⟨E,m⟩:=a.box0;have f:(vs.eraseIdx i).length=vs.length-1:=by rw[List.length_eraseIdx,if_pos (by omega)]
 rcases a.mail with⟨_,e,_⟩|⟨g,n,u,rfl,d,x,y,z,A,B⟩
 ·rw[e]at k;simp at k;omega
 ·refine(xD g n mc i vs u w (by omega) x y (by omega) A B).mono ?_;rintro e w' ⟨rfl,o⟩;obtain⟨c,I,v,p,F,q⟩:=o.out;have j:=a.mailM _ rfl;have l:¬pb=g:=λe=>d (by rw[<-e];exact E);obtain⟨L,J,K,C,_⟩:=a.heap.box;obtain⟨_,_,_,r,t,_⟩:=PL.cells C;have D:=a.dropped i (w1:=w') (g:=g) d c (af ⟨g,n,v,rfl,d,p,by omega,z,by omega,by rw[f];exact q⟩) j;refine⟨by rw[f],c.mono λb _ e=>by rw[e];exact j,(c.cell 7 m l).trans r,?_,D⟩;have h:=t 7;unfold World.frozen? at h ⊢;rw[c.block pb m l];exact h
end
def qK(n:Nat)(room:Int)(l:List (Bh (n+1)))(name:ByteArray)(self next:Int)(s:Tc)(ms:List Tc):Int:=
 if mZ n l≠0 then mZ n l else if (decide (1<=self) && decide (self<=99) && decide (1<=next) && decide (next<=92))=false then 1 else if (lR room l name self next s ms).isSome then 0 else 4
def kZ(c:Nat)(sends:List (Int×Tc))(spawns:List (Int×ByteArray×Tc))(links:List Int)(sa:Option Addr)(sl sc:Nat)(pa:Option Addr)(pl pc:Nat)(ka:Option Addr)(kl kc:Nat)(P:Nat->Prop)(w:World):Prop:=
 ∃(f:Nat)(d:List (Int×Tm (f+1)))(e:List (Int×ByteArray×Tm (f+1))),(d.length=sl/\e.length=pl/\links.length=kl)/\w.ownsRow c 162 5 (.slice sa sl sc) sl (d.flatMap λa=>LJ a.1 a.2)/\w.ownsRow c 159 6 (.slice pa pl pc) pl (e.flatMap λa=>MM a.1 a.2.1 a.2.2)/\w.ownsRow c 3 1 (.slice ka kl kc) kl (links.map λg=> .int .i64 g)/\
  d.map (λa=>(a.1,cn _ a.2))=sends/\e.map (λa=>(a.1,a.2.1,cn _ a.2.2))=spawns/\(∀a∈d,bm _ a.2=0/\In w.heap.size w _ a.2/\bV (λb=>c<=b/\P b) _ a.2)/\(∀a∈e,bm _ a.2.2=0/\In w.heap.size w _ a.2.2/\bV (λb=>c<=b/\P b) _ a.2.2)/\∀b,((Value.slice sa sl sc).ownBlock=some b\/(Value.slice pa pl pc).ownBlock=some b\/(Value.slice ka kl kc).ownBlock=some b)->c<=b/\P b
theorem kZ.kept{f:Nat}{sends:List (Int×Tc)}{spawns:List (Int×ByteArray×Tc)}{links:List Int}{sa:Option Addr}{sl sc:Nat}{pa:Option Addr}{pl pc:Nat}{ka:Option Addr}{kl kc:Nat}{P:Nat->Prop}{w w':World}(v:kZ f sends spawns links sa sl sc pa pl pc ka kl kc P w){S:Nat->Prop}(r:bi S w w')(o:∀q,f<=q->P q->q<w.heap.size->¬S q):kZ f sends spawns links sa sl sc pa pl pc ka kl kc P w':=by
 obtain⟨u,H,I,x,y,z,A,B,C,g,h,i⟩:=v;have p:∀{e:Nat}{m:Tm e},In w.heap.size w e m->bV (λq=>f<=q/\P q) e m->In w'.heap.size w' e m:=λF G=>F.kee (r.mono (T:=λb=>S b/\b<w.heap.size) λb D q=>⟨q,D⟩) (G.mono λq c (a:S q/\q<w.heap.size)=>o q c.1 c.2 a.2 a.1);have l:∀{k:TypeId}{a e:Nat}{j:Value}{n:List Value},w.ownsRow f k a j e n->(∀q,j.ownBlock=some q->f<=q/\P q)->w'.ownsRow f k a j e n:=λ{k a e j n} s t=>aW s r λq c=>by
  obtain⟨J,E⟩:=dQ s q c;exact o q (t q c).1 (t q c).2 (aA.1 E).1
 exact⟨u,H,I,x,l y λq c=>i q (ae c),l z λq c=>i q (af (ae c)),l A λq c=>i q (af (af c)),B,C,λa d=>⟨(g a d).1,p (g a d).2.1 (g a d).2.2,(g a d).2.2⟩,λa d=>⟨(h a d).1,p (h a d).2.1 (h a d).2.2,(h a d).2.2⟩,i⟩
theorem kZ.none(c:Nat)(P:Nat->Prop)(w:World):kZ c [] [] [] none 0 0 none 0 0 none 0 0 P w:=
 ⟨0,[],[],⟨rfl,rfl,rfl⟩,ee _ _ _ _,ee _ _ _ _,ee _ _ _ _,rfl,rfl,λd b=>(by cases b),λd b=>(by cases b),λe a=>by
  rcases a with a|a|a<;>cases a⟩
def NX(r q:Nat)(name:ByteArray)(room:Int)(s:Tc)(ms:List Tc)(o:Nat)(M:Nat->Prop)(n:Nat)(l:List (Bh (n+1)))(self next:Int)(w:World)(e:Ending)(w':World):Prop:=
 (∃g,e=.returned (.tuple #[Lj,.int .i64 g])/\Hid (g≠0/\g=qK n room l name self next (cn 13 s) (ms.map (cn 13))/\ag w w'))\/
  ∃(a:Tc)(f:Int)(sa:Option Addr)(sl sc:Nat)(pa:Option Addr)(pl pc:Nat)(ka:Option Addr)(kl kc:Nat),e=.returned (.tuple #[M2 a.1.1 a.1.2.1 a.1.2.2 a.2.1.1 a.2.2.length a.2.1.2 f sa sl sc pa pl pc ka kl kc,.int .i64 0])/\Hid (∃b h d,qK n room l name self next (cn 13 s) (ms.map (cn 13))=0/\lR room l name self next (cn 13 s) (ms.map (cn 13))=some b/\f=b.fate/\cn 13 a=b.message/\bm 13 a=0/\In w'.heap.size w' 13 a/\bV (λc=>w.heap.size<=c/\c<d) 13 a/\bL M w w'/\w.heap.size<d/\
   (∃i v p t u k m j,cr r q name room 13 i (ms.eraseIdx h) [] (o+402) (λc=>M c\/d<=c) w' v p t u k m j/\cn 13 i=b.state/\(ms.eraseIdx h).map (cn 13)=b.mail)/\kZ (w.heap.size+1) b.sends b.spawns b.links sa sl sc pa pl pc ka kl kc (λ_=>True) w')
theorem Mv{n:Nat}(room self next:Int)(s m:Tc)(ms:List Tc)(c:Cl (n+1))(b:List Tc):eI room self next s m ms c b={eI room self next s s ms c b with message:=m}:=by
 unfold eI;cases pq self c.2.2 ⟨b,next,[],[],[],false⟩with
 | none=>rfl
 | some e=>
  cases d:qV e.b self (n+1) c.1.2.2 with
  | none=>simp only[d]
  | some t=>
   simp only[d];by_cases a:(ms.map (sz 13)).sum+sz 13 t<=room
   ·simp only[if_pos a]
   ·simp only[if_neg a]
theorem E7{n:Nat}{room self next:Int}{s m:Tc}{ms:List Tc}{c:Cl (n+1)}{b:List Tc}(a:¬((eI room self next s m ms c b).fate=0\/(eI room self next s m ms c b).fate=1)):(eI room self next s m ms c b).sends=[]/\(eI room self next s m ms c b).spawns=[]/\(eI room self next s m ms c b).links=[]:=by
 unfold eI at a ⊢;cases hd:pq self c.2.2 ⟨b,next,[],[],[],false⟩with
 | none=>exact⟨rfl,rfl,rfl⟩
 | some d=>
  rw[hd]at a;cases f:qV d.b self (n+1) c.1.2.2 with
  | none=>simp[f]
  | some t=>
   simp only[f]at a ⊢;by_cases e:(ms.map (sz 13)).sum+sz 13 t<=room
   ·simp only[if_pos e]at a;cases hst:d.stops<;>simp[hst]at a
   ·simp[if_neg e]
theorem E6{n:Nat}(room self next:Int)(s m:Tc)(ms:List Tc)(c:Cl (n+1))(b:List Tc):(eI room self next s m ms c b).mail=ms:=by
 unfold eI;cases pq self c.2.2 ⟨b,next,[],[],[],false⟩with
 | none=>rfl
 | some e=>
  cases d:qV e.b self (n+1) c.1.2.2 with
  | none=>simp only[d]
  | some t=>
   simp only[d];by_cases a:(ms.map (sz 13)).sum+sz 13 t<=room
   ·simp only[if_pos a]
   ·simp only[if_neg a]
theorem pV.keptS{D:Nat}{l:List (Tm D)}{B:List Tc}{d:Nat}{w w':World}{b h:Nat}{S:Nat->Prop}(a:pV D l B d w b h)(c:bi S w w')(g:∀q,d<=q->¬S q):pV D l B d w' b h:=by
 obtain⟨e,f⟩:=a.new;refine⟨a.bnd,a.tells,a.cap,⟨e,aJ f c.size⟩,λn t m=>?_,λo=>?_⟩
 ·obtain⟨p,r,j⟩:=a.at' n t m;exact⟨p.kee c f (g b e),r.kee c (j.mono λs k=>g s k.1),j⟩
 ·have i:=a.free o;unfold World.frozen? at i ⊢;rw[c.block b f (g b e)];exact i
theorem vJ{n B:Nat}{w:World}{p:Option Addr}{l:List (Bh (n+1))}(j:gF (n+1) B w p l)(name:ByteArray):∃e d g,Kk (n+1) (fN (n+1) name l)=.slice e d g/\(fP name l).length=d/\pe B w 13 (eE (n+1)) (gE (n+1) B w) e (fP name l)/\(fP name l=[]\/∃b∈l,fP name l=b.2.2):=by
 have k:∀(l:List (Bh (n+1))) b,fN (n+1) name l=some b->b∈l:=by
  intro l
  induction l with
  | nil=>intro b a;cases a
  | cons q l ih=>
   intro b a;simp only[fN]at a;split at a
   ·obtain rfl:=aq a;simp
   ·exact bI _ (ih b a)
 unfold fP;cases hb:fN (n+1) name l with
 | none=>exact⟨none,0,0,rfl,rfl,ae rfl,ae rfl⟩
 | some b=>
  have c:=k l b hb;refine⟨_,_,_,rfl,rfl,?_,af ⟨b,c,rfl⟩⟩;rcases j with f|⟨s,o,f,r,h⟩
  ·rw[f]at c;cases c
  ·obtain⟨m,i⟩:=cM c;exact((h m b i).2).2.2
theorem cr.step{al J n:Nat}{name:ByteArray}{room:Int}{s:Tc}{ms:List Tc}{ak:Nat}{M:Nat->Prop}{w:World}{ws:List Wd}{nm:List ByteArray}{bp:Wd}{vs:List Wd}{ma:Option Addr}{aD:Nat}{Mh:Nat->Prop}(S:cr al J name room 13 s ms [] ak M w ws nm bp vs ma aD Mh)(l:List (Bh (n+1)))(Z:Option Addr)(L B:Nat)(a2:gF (n+1) B w Z l)(Q:B<=w.heap.size)(b4:l.length<=L)(bg:L<=maxLen)(bH:jP (n+1) l=true->(ar (n+6) (bR n l)).length<=2097152)(R:∀b,M b->b<w.heap.size)(bI:∀W,bi M w W->gF (n+1) B W Z l)(cx:ak<=47000)(cs:ms.length<=999)(ct:al<=w.heap.size)(self next:Int):ah 43 #[.pointer (some ⟨J,0,none⟩),.slice Z l.length L,.int .i64 self,.int .i64 next] w (NX al J name room s ms ak M n l self next w):=by
 obtain⟨b8,b9⟩:=S.box0 (N:=12);obtain⟨cH,cA,cD,bJ,_⟩:=S.heap.box;obtain⟨bw,_,_,co,cp,_⟩:=PL.cells bJ;obtain⟨aU,bz,ba,bU,bQ,bW,bS⟩:=vJ a2 name;have cw:L<=9223372036854775807:=by unfold maxLen at bg;omega
 have be:mZ n l=0->(∀c∈fP name l,o9 c)/\(fP name l).length<=6:=λq=>by
  obtain⟨_,bh⟩:=Ef q;rcases bS with d|⟨b,r,d⟩
  ·rw[d];exact⟨λc bM=>(by cases bM),aB _⟩
  ·rw[d];exact⟨(bh b r).2,(bh b r).1⟩
 have a0:∀(g:Nat)(t:Tc),(ms.map (cn 13))[g]?=some t->g<ms.length:=λg t ap=>by
  have:=(aL.1 ap).1;simpa using this
 refine(Gb J name Z l.length L self next (mZ n l) aU bz ba w (ri (fP name l) (cn 13 s) (ms.map (cn 13)) 0=none)
  (λg i c v F u=>∃j A E,ag w u/\(1<=self/\self<=99/\1<=next/\next<=92)/\mZ n l=0/\ri (fP name l) (cn 13 s) (ms.map (cn 13)) 0=some (g,c,j)/\c∈fP name l/\(ms.map (cn 13))[g]?=some (cn 13 i)/\bm 13 i=0/\In u.heap.size u 13 i/\bV (λa=>w.heap.size<a/\a≠v) 13 i/\pV (A+1) E j (w.heap.size+1) u v F)
  (λg i c v F u=>∃j A E aO aH aJ aM az aF an,cr al J name room 13 s (ms.eraseIdx g) [] ak M u aO aH aJ aM az aF an/\bL M w u/\(1<=self/\self<=99/\1<=next/\next<=92)/\mZ n l=0/\ri (fP name l) (cn 13 s) (ms.map (cn 13)) 0=some (g,c,j)/\c∈fP name l/\(ms.map (cn 13))[g]?=some (cn 13 i)/\bm 13 i=0/\In u.heap.size u 13 i/\bV (λa=>w.heap.size<a/\a≠v) 13 i/\pV (A+1) E j (w.heap.size+1) u v F)
  (λg i c f sa sl sc pa pl pc ka kl kc P=>∃j aa,ri (fP name l) (cn 13 s) (ms.map (cn 13)) 0=some (g,c,j)/\(ms.map (cn 13))[g]?=some (cn 13 i)/\bm 13 i=0/\In P.heap.size P 13 i/\bV (λa=>w.heap.size<a/\a<aa) 13 i/\w.heap.size<aa/\bL M w P/\f=(eI room self next (cn 13 s) (cn 13 s) ((ms.eraseIdx g).map (cn 13)) c j).fate/\
   (∃O aO aH aJ aM az aF an,cr al J name room 13 O (ms.eraseIdx g) [] (ak+402) (λa=>M a\/aa<=a) P aO aH aJ aM az aF an/\cn 13 O=(eI room self next (cn 13 s) (cn 13 s) ((ms.eraseIdx g).map (cn 13)) c j).state)/\
   kZ (w.heap.size+1) (eI room self next (cn 13 s) (cn 13 s) ((ms.eraseIdx g).map (cn 13)) c j).sends (eI room self next (cn 13 s) (cn 13 s) ((ms.eraseIdx g).map (cn 13)) c j).spawns (eI room self next (cn 13 s) (cn 13 s) ((ms.eraseIdx g).map (cn 13)) c j).links sa sl sc pa pl pc ka kl kc (λ_=>True) P)
  _ M b9 R (S.inM J b8) rfl ?_ bw ?_ ?_ ?_ ?_).mono ?_
 ·intro W k;refine(Ju n l Z L b4 bg B W (a2.below (k.mono Q)) (aw Q k.size) bH).mono ?_;rintro d K ⟨i,rfl,x⟩;exact⟨_,_,_,_,_,_,rfl,x.out.1⟩
 ·intro W _ k;refine(tI (n+1) name l Z L l.length B W rfl (by omega) (aw Q k.size) (a2.below (k.mono Q))).mono ?_;rintro d K ⟨rfl,r⟩;exact⟨by rw[bU],r⟩
 ·intro W q y k;simp only[ay,bT]at y;obtain⟨a3,b5⟩:=be q;have bd:=BV (S.later (N:=12) k) (fP name l) aU ba B ((cq (dS (n+1)) 13 (eE (n+1)) aU).below (k.mono Q) bW) (aw Q k.size) a3 (by omega) (by omega) (by omega);rw[bQ]at bd;refine bd.mono ?_;rintro d K (⟨bF,rfl,x⟩|⟨g,i,c,v,F,rfl,x⟩)
  ·exact ae ⟨rfl,x.out,bF⟩
  ·obtain⟨j,A,E,G,H,z,I,bl,V,X,D⟩:=x.out;have ce:=k.size;have aj:=D.new;have aZ:=a0 g _ z;exact af ⟨g,i,c,v,F,rfl,bl,by omega,aj.2,by omega,j,A,E,k.trans (bl.mono ce),⟨y.1.1.1,y.1.1.2,y.1.2,y.2⟩,q,G,H,z,I,V,X.mono λa h=>⟨by omega,h.2⟩,D.mono (by omega)⟩
 ·rintro g i c v F u W ⟨j,A,E,aV,T,q,G,H,z,I,V,X,D⟩ k;have aW:=aV.trans (k.mono aV.size);have aZ:=a0 g _ z;obtain⟨cI,cB,cE,bK,_⟩:=(S.later (N:=12) aW).heap.box;obtain⟨_,_,_,bx,bA,_⟩:=PL.cells bK;refine⟨ma,vs.length,aD,⟨bx,bA 7⟩,λbv au=>?_⟩;have bb:=aW.trans (au.mono aW.size);refine((S.later (N:=12) bb).delete (N:=12) g aZ (by omega)).mono ?_;rintro d K ⟨rfl,x⟩;obtain⟨cg,ch,ci,cj,a6⟩:=x.out;have cb:=aV.size;refine⟨ma,_,aD,rfl,cg,ch,ci,j,A,E,ws,nm,bp,_,ma,aD,Mh,cj,(aT bb M).trans a6 λ_ _ d=>d,T,q,G,H,z,I,?_,X,?_⟩
  ·exact(((V.below k).mono k.size |>.below au).mono au.size).kee (gN a6) (X.mono λa h e=>by have:=R a e;omega)
  ·exact((D.keptS (aE k (λ_=>False)) (λ_ _ d=>d)).keptS (aE au (λ_=>False)) (λ_ _ d=>d)).keptS (gN a6) λa h e=>by have:=R a e;omega
 ·rintro g i c v F u W ab ⟨j,A,E,aO,aH,aJ,aM,az,aF,an,b7,a1,T,q,G,H,z,I,V,X,D⟩ k cu bc;obtain⟨a3,b5⟩:=be q;have Y:=D.keptS (aE k (λ_=>False)) (λ_ _ d=>d);have aj:=D.new;have cb:=a1.size;have cd:=k.size;have aZ:=a0 g _ z;have cv:ab<W.heap.size:=(aA.1 bc).1;have bY:dR (w.heap.size+1) ab self n A 0 next ⟨j,next,[],[],[],false⟩ W E v F [] [] (.slice none 0 0) (.slice none 0 0) (.slice none 0 0):=by
   refine⟨bc,⟨by omega,by omega,aj.1,Y.new.2,by omega⟩,Y.bnd,Y.tells,λU e p=>⟨(Y.at' U e p).1,(Y.at' U e p).2.1,(In.offB (D.at' U e p).2.2 (D.at' U e p).2.1).mono λa h=>⟨h.1.1,λm=>?_⟩⟩,Y.free,ee _ _ _ _,ee _ _ _ _,ee _ _ _ _,rfl,rfl,λe p=>(by cases p),λe p=>(by cases p),⟨⟨λd=>(by cases d),λd=>(by cases d),λd=>(by cases d)⟩,⟨λd=>(by cases d),λd=>(by cases d),λd=>(by cases d)⟩,λa=>⟨λd=>(by cases d),λd=>(by cases d)⟩⟩,⟨aB _,aB _,aB _,by simp,T.2.2.1,T.2.2.2⟩⟩;rcases m with m|m|m|m|m
   ·have:=h.2;omega
   ·exact h.1.2 m
   ·cases m
   ·cases m
   ·cases m
  have b3:bi M w W:=(gN a1).trans (aE k (λ_=>False)) λ_ _ d=>d.elim;have bP:gE (n+1) B W c:=by
   obtain⟨_,_,_,_,_,bX,_⟩:=vJ (bI W b3) name;rcases bX with d|⟨a,o,d,h,bO⟩
   ·rw[d]at H;cases H
   ·obtain⟨U,b2⟩:=cM H;exact(bO U c b2).2
  have bN:gE (n+1) (w.heap.size+1) W c:=(dS (n+1)).mono (by omega) bP;have bZ:(ms.eraseIdx g).length<=999:=by
   have:=List.length_eraseIdx_le ms g;omega
  have aY:=Ca (b:=j) (b7.later (N:=12) k) bY rfl c bN (a3 c H) ⟨T.1,T.2.1⟩ (λa e=>by have:=R a e;omega) (by omega) (by omega) bZ;have b0:ah 72 #[.pointer (some ⟨J,0,none⟩),N2 c,.pointer (some ⟨ab,0,none⟩)] W _:=aY;refine b0.mono ?_;rintro d K ⟨f,rfl,aR,aS,⟨O,aP,aI,aK,aN,aC,aG,ao,a8,a9⟩,bu⟩;have aX:∀a,kI ab v (.slice none 0 0) (.slice none 0 0) (.slice none 0 0) a->a=ab\/a=v:=λa m=>by
   rcases m with m|m|m|m|m
   ·exact ae m
   ·exact af m
   ·cases m
   ·cases m
   ·cases m
  have ad:bL M w K:=(a1.trans (aT k M) λ_ _ d=>d).trans (iR aS) λa h e=>by
   rcases e with e|e
   ·exact e
   ·rcases aX a e with e|e<;>omega
  have am:=In.offB X V
  have aQ:In K.heap.size K 13 i:=((V.below k).mono cd).kee aS (am.mono λa h e=>by
   rcases e with e|e
   ·have:=R a e;omega
   ·rcases aX a e with e|e
    ·have:=h.2;omega
    ·exact h.1.2 e)
  have bq:bV (λa=>w.heap.size<a/\a<W.heap.size) 13 i:=am.mono λa h=>⟨h.1.1,by have:=h.2;omega⟩;refine⟨f,rfl,aS.mono λa _ e=>?_,λaq=>?_,λaq=>?_⟩
  ·rcases e with e|e
   ·exact ae e
   ·exact af (aX a e)
  ·obtain⟨bB,cz,cm,cl,bn,bo,cG,cF,cC,C,br,bs,a7,_⟩:=bu aq;have bk:=C.sRow;have bj:=C.pRow;have bf:=C.lRow;have b1:=C.high;have a5:=C.sIn;have a4:=C.pIn;obtain⟨sa,sc,rfl⟩:=lQ bk;obtain⟨pa,pc,rfl⟩:=lQ bj;obtain⟨ka,kc,rfl⟩:=lQ bf;refine⟨_,_,_,_,sa,bn.length,sc,pa,bo.length,pc,ka,bB.links.length,kc,C.box,j,W.heap.size,G,z,I,aQ,bq,by omega,ad,aR,⟨O,aP,aI,aK,aN,aC,aG,ao,a8,a9⟩,?_⟩;refine⟨A+1+n,bn,bo,⟨rfl,rfl,by rw[<-a7]⟩,bk,bj,by rw[<-a7];exact bf,C.sIs.trans br,C.pIs.trans bs,λe p=>⟨(a5 e p).1,(a5 e p).2.1,(a5 e p).2.2.mono λa h=>⟨h.1,trivial⟩⟩,λe p=>⟨(a4 e p).1,(a4 e p).2.1,(a4 e p).2.2.mono λa h=>⟨h.1,trivial⟩⟩,λa h=>⟨b1 a (af (af h)),trivial⟩⟩
  ·rw[aR]at aq;obtain⟨bC,bD,bE⟩:=E7 aq;refine⟨j,W.heap.size,G,z,I,aQ,bq,by omega,ad,aR,⟨O,aP,aI,aK,aN,aC,aG,ao,a8,a9⟩,?_⟩;rw[bC,bD,bE];exact kZ.none _ _ _
 ·rintro d K (⟨ck,rfl,x⟩|⟨g,i,c,f,sa,sl,sc,pa,pl,pc,ka,kl,kc,rfl,x⟩)
  ·obtain⟨r,cf⟩:=x.out;refine ae ⟨ck,rfl,?_⟩;rcases cf with⟨rfl,ap⟩|⟨rfl,q,y⟩|⟨rfl,q,y,aj⟩
   ·exact⟨ap,by unfold qK;rw[if_pos ap],r⟩
   ·exact⟨by decide,by unfold qK;rw[if_neg (λa=>a q),if_pos y],r⟩
   ·refine⟨by decide,?_,r⟩;have ax:lR room l name self next (cn 13 s) (ms.map (cn 13))=none:=by
     unfold lR;rw[aj];rfl
    unfold qK;rw[if_neg (λa=>a q),if_neg (by rw[y];decide),ax];rfl
  ·obtain⟨q,y,P,bv,⟨j,aa,G,z,I,aQ,am,bG,ad,aY,⟨O,aP,aI,aK,aN,aC,aG,ao,P1,bt⟩,ca⟩,ai,av⟩:=x.out;have cy:=ad.size;have cc:=ai.size;have b6:(ms.map (cn 13)).eraseIdx g=(ms.eraseIdx g).map (cn 13):=by simp[rP,List.map_take,List.map_drop]
   have ax:lR room l name self next (cn 13 s) (ms.map (cn 13))=some {eI room self next (cn 13 s) (cn 13 s) ((ms.eraseIdx g).map (cn 13)) c j with message:=cn 13 i}:=by
    unfold lR;rw[G];simp only[dl];rw[z,b6,Option.map_some,Mv]
   refine af ⟨i,f,sa,sl,sc,pa,pl,pc,ka,kl,kc,rfl,_,g,aa,?_,ax,aY,rfl,I,((aQ.below ai).mono cc).kee av (am.mono λa h d=>by omega),am.mono λa h=>⟨by omega,h.2⟩,(ad.trans (aT ai M) λ_ _ d=>d).trans (iR av) λb r d=>by omega,bG,⟨O,aP,aI,aK,aN,aC,aG,ao,(P1.later (N:=12) ai).kept (N:=12) (iR av) λb r _ d=>?_,bt,(E6 ..).symm⟩,(ca.kept (aE ai (λ_=>False)) λ_ _ _ _ d=>d).kept av λa h _ _ d=>by omega⟩
   ·unfold qK;rw[if_neg (λa=>a q),if_neg (by rw[y];decide),ax];rfl
   ·rcases r with r|r
    ·have:=R b r;omega
    ·omega
theorem vG(n:Nat)(x:Tm n):bm n x=0\/bm n x=2\/bm n x=5:=by
 rw[<-fS];unfold vv;split
 ·split
  ·exact af (ae rfl)
  ·exact ae rfl
 ·exact af (af rfl)
section
variable {base pb:Nat} {name:ByteArray} {room:Int} {N n:Nat} {s:Tm (N+1)} {ms:List (Tm (N+1))} {nk:Nat} {M:Nat->Prop} {w:World} {ws:List Wd} {nm:List ByteArray} {sv:Wd} {vs:List Wd} {ma:Option Addr} {mc:Nat} {Mh:Nat->Prop}
theorem cr.putBad(k:cr base pb name room (N+1) s ms [] nk M w ws nm sv vs ma mc Mh)(x:Tm (n+1))(B:In w.heap.size w (n+1) x)(z:bV (λb=>¬M b) (n+1) x)(u:(ar (n+1) x).length<=2097152)(G:nk<=49000)(F:base<=w.heap.size)(o:bm (n+1) x≠0):ah 109 #[.pointer (some ⟨pb,0,none⟩),dd (n+1) x] w λe w'=>e=.returned (.tuple #[.agg #[.int .i64 0,.int .i64 0],.int .i64 (bm (n+1) x)])/\ag w w':=by
 obtain⟨_,_,_,I,J,C,D,_⟩:=k.front;have H:=k.names;have l:jo (n+1) x room ws=bm (n+1) x:=by
  unfold jo;rw[if_pos o]
 have t:jo (n+1) x room ws≠6:=by
  rw[l];rcases vG (n+1) x with e|e|e<;>rw[e]<;>decide
 have p:∀{h:Wd}{c:Int}{f i:World},xh (n+1) x base (PL pb name sv (.slice ma vs.length mc)) room ws nm Mh h c f i->c≠0:=λg=>by
  rw[g.1,l];exact o
 refine(AN pb x.1.1 x.1.2.1 x.1.2.2 x.2.1.1 x.2.2.length x.2.1.2 w (λh c f i=>xh (n+1) x base (PL pb name sv (.slice ma vs.length mc)) room ws nm Mh h c f i) (λ_ _=>False) (λ_ _ _ _=>False) ?_ ?_ ?_).mono ?_
 ·intro f d;have m:=d.size;have q:=k.later d;refine(tW (n+1) x base (PL pb name sv (.slice ma vs.length mc)) room ws nm Mh f q.heap ((B.below d).mono m) (z.mono λb d g=>d (k.inM b g)) u (by omega) C D (by omega) (by omega)).mono ?_;intro e i g;obtain⟨h,c,rfl,a⟩:=yg g;refine⟨h,c,rfl,?_,a⟩;have j:=(a.2.1 (p a)).2;exact⟨j.size,λb _ _ r=>j.block b r⟩
 ·intro K f i L _ a _ _;exact absurd a.1.symm t
 ·intro _ _ _ a;exact a.elim
 ·rintro e w' ⟨h,c,rfl,⟨_,f,i,d,a,y⟩|⟨_,_,_,_,_,_,_,_,_,_,_,a,_⟩⟩
  ·obtain⟨A,j⟩:=a.2.1 (p a);have m:=d.size;have v:c=bm (n+1) x:=a.1.trans l;refine⟨by rw[v,A],(d.trans (j.mono m)).trans ((gN y).below (by have:=j.size;omega) λb E g=>by omega)⟩
  ·exact a.elim
theorem cr.deliverBad(f:cr base pb name room (N+1) s ms [] nk M w ws nm sv vs ma mc Mh)(x:Tm (n+1))(v:In w.heap.size w (n+1) x)(t:bV (λb=>¬M b) (n+1) x)(p:(ar (n+1) x).length<=2097152)(r:nk<=49000)(q:base<=w.heap.size)(k:bm (n+1) x≠0):ah 78 #[.pointer (some ⟨pb,0,none⟩),dd (n+1) x] w λe w'=>e=.returned (.int .i64 (if 20<=ms.length then 2 else bm (n+1) x))/\ag w w':=by
 have z:=f.len;obtain⟨A,u⟩:=f.box0;refine(qn pb x.1.1 x.1.2.1 x.1.2.2 x.2.1.1 x.2.2.length x.2.1.2 vs.length mc ma w (λ_ l h d=>l=bm (n+1) x/\ag h d) (λ_ _ _ _ _ _=>False) u ?_ ?_ ?_).mono ?_
 ·intro d a;obtain⟨D,B,C,i,_⟩:=(f.later a).heap.box;exact(PL.cells i).2.2.2.1
 ·intro h a;have g:=a.size;refine((f.later a).putBad x ((v.below a).mono g) t p r (aw q g) k).mono ?_;rintro e d ⟨rfl,c⟩;exact⟨(0,0),_,rfl,⟨c.size,λb _ _ j=>c.block b j⟩,rfl,c⟩
 ·rintro y h d ⟨e,_⟩;exact absurd e.symm k
 ·rintro e w' ⟨i,m⟩;by_cases o:20<=vs.length
  ·obtain⟨rfl,a⟩:=i o;exact⟨by rw[if_pos (by omega)],a⟩
  ·obtain⟨y,l,h,d,rfl,a,⟨rfl,c⟩,j,_⟩:=m (by omega);have g:=a.size;exact⟨by rw[if_neg (by omega)],(a.trans (c.mono g)).trans ((j k).mono (by have:=c.size;omega))⟩
end
def lD(n:Nat)(x:Tm n)(room:Int)(s:Tc)(ms:List Tc):Int:=if 20<=ms.length then 2 else if bm n x≠0 then bm n x else if aF n x=false then 5 else if ((s::ms).map (sz 13)).sum+sz n x<=room then 0 else 6
theorem DJ{l:List Tc}(a:∀y∈l,bm 13 y=0):((l.map (cn 13)).map (sz 13)).sum=(l.map (sz 13)).sum:=by
 rw[fV];congr 1;exact iG λy b=>DK (a y b)
section
variable {base pb:Nat} {name:ByteArray} {room:Int} {n:Nat} {s:Tc} {ms:List Tc} {nk:Nat} {M:Nat->Prop} {w:World} {ws:List Wd} {nm:List ByteArray} {sv:Wd} {vs:List Wd} {ma:Option Addr} {mc:Nat} {Mh:Nat->Prop}
theorem cr.deliverC(f:cr base pb name room 13 s ms [] nk M w ws nm sv vs ma mc Mh)(x:Tm (n+1))(C:In w.heap.size w (n+1) x)(B:bV (λb=>¬M b) (n+1) x)(J:(ar (n+1) x).length<=2097152)(I:∀b,M b->b<w.heap.size)(A:nk<=49000)(G:ms.length<=999)(v:base<=w.heap.size):ah 78 #[.pointer (some ⟨pb,0,none⟩),dd (n+1) x] w λe w'=>e=.returned (.int .i64 (lD (n+1) x room (cn 13 s) (ms.map (cn 13))))/\Hid (∃D q m o p k l h,cr base pb name room 13 s D [] (nk+201) (λb=>M b\/w.heap.size<=b) w' q m o p k l h/\bL M w w'/\D.map (cn 13)=if lD (n+1) x room (cn 13 s) (ms.map (cn 13))=0 then ms.map (cn 13)++ [cn (n+1) x]else ms.map (cn 13)):=by
 have L:∀r∈s::ms,bm 13 r=0:=λr Q=>((f.front (N:=12)).2.2.1 r Q).1;have O:((cn 13 s::ms.map (cn 13)).map (sz 13)).sum=((s::ms).map (sz 13)).sum:=DJ L;by_cases a:bm (n+1) x=0
 ·have j:av ⟨n+1,x⟩:=aG.2 (br.1 a).1;have i:eW (n+1) x<13:=by have:=(br.1 a).2.1;omega
  have g:=iS 13 (n+1) x j i;have y:bm 13 (aK 13 (n+1) x)=0:=(bH g).trans a;have z:=f.deliver (N:=12) (aK 13 (n+1) x) (rB 13 (n+1) x _ _ j i C) (sZ 13 (n+1) x _ j i B) (eH y) I A G v;have d:xE 13 (aK 13 (n+1) x) room s ms=lD (n+1) x room (cn 13 s) (ms.map (cn 13)):=by
   unfold xE lD rE;rw[O,fA,y,a,co _ _ _ _ g,kS _ _ _ _ g]
  have P:dd (12+1) (aK (12+1) (n+1) x)=dd (n+1) x:=xS 12 n x;rw[P]at z;refine z.mono ?_;rintro e w' ⟨rfl,E⟩;obtain⟨q,m,o,p,k,l,h,F,K⟩:=E.out;refine⟨congrArg (λS=>Ending.returned (.int .i64 S)) d,_,q,m,o,p,k,l,h,F,K,?_⟩;have H:xE (12+1) (aK (12+1) (n+1) x) room s ms=lD (n+1) x room (cn 13 s) (ms.map (cn 13)):=d;rw[H];by_cases c:lD (n+1) x room (cn 13 s) (ms.map (cn 13))=0
  ·rw[if_pos c,if_pos c,gV];congr 1;exact congrArg (λt=> [t]) (gL g)
  ·rw[if_neg c,if_neg c]
 ·have d:lD (n+1) x room (cn 13 s) (ms.map (cn 13))=if 20<=ms.length then 2 else bm (n+1) x:=by
    unfold lD;rw[fA,if_pos a]
  have c:lD (n+1) x room (cn 13 s) (ms.map (cn 13))≠0:=by
   rw[d];split
   ·decide
   ·exact a
  refine(f.deliverBad (N:=12) x C B J A v a).mono ?_;rintro e w' ⟨rfl,u⟩;refine⟨by rw[d],ms,ws,nm,sv,vs,ma,mc,Mh,(f.later (N:=12) u).mono (N:=12) (λb R=>ae R) (by omega),aT u M,?_⟩;rw[if_neg c]
end
theorem IF{n:Nat}{x:Tm (n+1)}(room:Int)(name:ByteArray)(b:bm (n+1) x=0):fK 13 (aK 13 (n+1) x) room name=fK (n+1) x room name:=by
 have d:av ⟨n+1,x⟩:=aG.2 (br.1 b).1;have c:eW (n+1) x<13:=by have:=(br.1 b).2.1;omega
 have a:=iS 13 (n+1) x d c;unfold fK jo;rw[bH a,co _ _ _ _ a,kS _ _ _ _ a]
theorem Nu(n:Nat)(x:Tm (n+1))(room:Int)(name:ByteArray)(w:World)(m:name.size<=9223372036854775807)(o:In w.heap.size w (n+1) x)(q:(ar (n+1) x).length<=2097152):ah 39 #[.string name,dd (n+1) x,.int .i64 room] w λe w'=>(fK (n+1) x room name≠0->e=.returned (.tuple #[.pointer none,.int .i64 (fK (n+1) x room name)])/\ag w w')/\ (fK (n+1) x room name=0->∃d,e=.returned (.tuple #[.pointer (some ⟨d,0,none⟩),.int .i64 0])/\Hid (w.heap.size<=d/\ag w w'/\bm (n+1) x=0/\∃s ws nm h Mh,cn 13 s=cn (n+1) x/\cr w.heap.size d name room 13 s [] [] 201 (λb=>w.heap.size<=b/\b<w'.heap.size) w' ws nm h [] none 0 Mh)):=by
 by_cases c:bm (n+1) x=0
 ·have k:av ⟨n+1,x⟩:=aG.2 (br.1 c).1;have j:eW (n+1) x<13:=by have:=(br.1 c).2.1;omega
  have l:=iS 13 (n+1) x k j;have r:bm 13 (aK 13 (n+1) x)=0:=(bH l).trans c;have i:=AK 12 (aK 13 (n+1) x) room name w m (rB 13 (n+1) x _ _ k j o) (eH r);have u:dd (12+1) (aK (12+1) (n+1) x)=dd (n+1) x:=xS 12 n x;rw[u]at i;refine i.mono ?_;rintro e w' ⟨f,g⟩;have t:fK (12+1) (aK (12+1) (n+1) x) room name=fK (n+1) x room name:=IF room name c;rw[t]at f g;refine⟨f,λa=>?_⟩;obtain⟨d,rfl,p⟩:=g a;obtain⟨v,y,ws,nm,h,Mh,z⟩:=p.out;exact⟨d,rfl,v,y,c,_,ws,nm,h,Mh,gL l,z⟩
 ·refine(AK n x room name w m o q).mono ?_;rintro e w' ⟨f,g⟩;refine⟨f,λa=>?_⟩;unfold fK at a;split at a
  ·cases a
  ·split at a
   ·cases a
   ·unfold jo at a;rw[if_pos c]at a;exact absurd a c
def P1(e l:Nat)(name:ByteArray)(room:Int)(cs:Tc)(g:List Tc)(k:Nat)(M:Nat->Prop)(w:World):Prop:=
 ∃a d c o j m n h i f,cr a l name room 13 d c [] k M w o j m n h i f/\(cn 13 d=cs/\c.map (cn 13)=g)/\a<=w.heap.size/\∀b,M b->e<=b/\b<w.heap.size
section
variable {B0 pb:Nat} {name:ByteArray} {room:Int} {cs:Tc} {cms:List Tc} {k:Nat} {M:Nat->Prop} {w:World}
theorem P1.later(g:P1 B0 pb name room cs cms k M w){w1:World}(c:ag w w1):P1 B0 pb name room cs cms k M w1:=by
 obtain⟨f,o,m,r,n,p,q,j,l,e,h,i,s,a⟩:=g;have t:=c.size;exact⟨f,o,m,r,n,p,q,j,l,e,h.later (N:=12) c,i,by omega,λb d=>⟨(a b d).1,by have:=(a b d).2;omega⟩⟩
theorem P1.kept(g:P1 B0 pb name room cs cms k M w){S:Nat->Prop}{w1:World}(d:bL S w w1)(j:∀b,M b->¬S b):P1 B0 pb name room cs cms k M w1:=by
 obtain⟨f,p,n,s,o,q,r,l,m,e,h,i,t,c⟩:=g;have u:=d.size;exact⟨f,p,n,s,o,q,r,l,m,e,h.kept (N:=12) d λb a _=>j b a,i,by omega,λb a=>⟨(c b a).1,by have:=(c b a).2;omega⟩⟩
def mM(M:Nat->Prop)(w w':World)(b:Nat):Prop:=(M b\/w.heap.size<=b)/\b<w'.heap.size
theorem P1.ok(h:P1 B0 pb name room cs cms k M w):bm 13 cs=0/\aF 13 cs=true/\(∀m∈cms,bm 13 m=0/\aF 13 m=true)/\((cs::cms).map (sz 13)).sum<=room:=by
 obtain⟨q,b,f,z,v,x,y,t,u,p,i,⟨rfl,rfl⟩,r,s⟩:=h;obtain⟨_,_,e,n,o,_⟩:=i.front (N:=12);have j:∀a∈b::f,bm 13 a=0:=λa d=>(e a d).1;have c:=e b (by simp);refine⟨pj c.1,(lB c.1).trans c.2,λm l=>?_,?_⟩
 ·obtain⟨a,d,rfl⟩:=bZ.1 l;have:=e a (bI _ d);exact⟨pj this.1,(lB this.1).trans this.2⟩
 ·have g:((cn 13 b::f.map (cn 13)).map (sz 13)).sum=((b::f).map (sz 13)).sum:=DJ j;rw[g];exact Int.le_trans n o
theorem P1.deliver(j:P1 B0 pb name room cs cms k M w){n:Nat}(x:Tm (n+1))(t:In w.heap.size w (n+1) x)(s:bV (λb=>¬M b) (n+1) x)(q:(ar (n+1) x).length<=2097152)(r:k<=49000)(m:cms.length<=999)(G:B0<=w.heap.size):ah 78 #[.pointer (some ⟨pb,0,none⟩),dd (n+1) x] w λe w'=>e=.returned (.int .i64 (lD (n+1) x room cs cms))/\Hid (bL M w w'/\P1 B0 pb name room cs (if lD (n+1) x room cs cms=0 then cms++ [cn (n+1) x]else cms) (k+201) (mM M w w') w'):=by
 obtain⟨i,A,J,P,K,L,O,H,I,E,l,⟨rfl,rfl⟩,c,d⟩:=j;refine(l.deliverC x t s q (λb a=>(d b a).2) r (by simpa using m) c).mono ?_;rintro e w' ⟨rfl,h⟩;obtain⟨y,D,z,B,C,u,v,F,o,f,p⟩:=h.out;refine⟨rfl,f,i,A,y,D,z,B,C,u,v,_,o.inside (N:=12),⟨rfl,p⟩,aw c f.size,λb a=>⟨?_,a.2⟩⟩;rcases a.1 with g|g
 ·exact(d b g).1
 ·omega
theorem P1.state(d:P1 B0 pb name room cs cms k M w)(g:k<=50000):ah 24 #[.pointer (some ⟨pb,0,none⟩)] w λe w'=>∃y:Tc,e=.returned (dd 13 y)/\Hid (ag w w'/\In w'.heap.size w' 13 y/\bV (λq=>w.heap.size<=q) 13 y/\bm 13 y=0/\cn 13 y=cs):=by
 obtain⟨l,h,r,v,s,t,u,o,p,j,a,⟨rfl,rfl⟩,m,n⟩:=d;have f:=(a.front (N:=12)).2.2.1 h (by simp);refine(a.state (N:=12) g).mono ?_;rintro e w' ⟨y,rfl,c⟩;obtain⟨y1,y2,i,b⟩:=c.out;exact⟨y,rfl,y1,y2,i,(bH b).trans f.1,gL b⟩
end
section
variable {B0 pb:Nat} {name:ByteArray} {room:Int} {cs:Tc} {cms:List Tc} {k:Nat} {M:Nat->Prop} {w:World}
theorem P1.mono(f:P1 B0 pb name room cs cms k M w){M':Nat->Prop}{c a:Nat}(j:∀b,M b->M' b)(m:k<=c)(l:∀b,M' b->a<=b/\b<w.heap.size):P1 a pb name room cs cms c M' w:=by
 obtain⟨e,r,p,u,q,s,t,n,o,d,g,h,i,_⟩:=f;exact⟨e,r,p,u,q,s,t,n,o,d,g.mono (N:=12) j m,h,i,l⟩
def NY(B0 pb:Nat)(name:ByteArray)(room:Int)(cs:Tc)(cms:List Tc)(k:Nat)(M:Nat->Prop)(n:Nat)(l:List (Bh (n+1)))(self next:Int)(w:World)(e:Ending)(w':World):Prop:=
 (∃g,e=.returned (.tuple #[Lj,.int .i64 g])/\Hid (g≠0/\g=qK n room l name self next cs cms/\ag w w'))\/
  ∃(a:Tc)(f:Int)(sa:Option Addr)(sl sc:Nat)(pa:Option Addr)(pl pc:Nat)(ka:Option Addr)(kl kc:Nat),e=.returned (.tuple #[M2 a.1.1 a.1.2.1 a.1.2.2 a.2.1.1 a.2.2.length a.2.1.2 f sa sl sc pa pl pc ka kl kc,.int .i64 0])/\Hid (∃c d,qK n room l name self next cs cms=0/\lR room l name self next cs cms=some c/\f=c.fate/\cn 13 a=c.message/\bm 13 a=0/\In w'.heap.size w' 13 a/\bV (λh=>w.heap.size<=h/\h<d) 13 a/\bL M w w'/\w.heap.size<d/\
   P1 B0 pb name room c.state c.mail (k+402) (λb=>(M b\/d<=b)/\b<w'.heap.size) w'/\c.mail.length<=cms.length/\kZ (w.heap.size+1) c.sends c.spawns c.links sa sl sc pa pl pc ka kl kc (λ_=>True) w')
theorem P1.step(D:P1 B0 pb name room cs cms k M w){n:Nat}(l:List (Bh (n+1)))(a:Option Addr)(c B:Nat)(K:gF (n+1) B w a l)(G:B<=w.heap.size)(L:l.length<=c)(O:c<=maxLen)(H:jP (n+1) l=true->(ar (n+6) (bR n l)).length<=2097152)(I:∀W,bi M w W->gF (n+1) B W a l)(aj:B0<=w.heap.size)(J:k<=47000)(F:cms.length<=999)(self next:Int):ah 43 #[.pointer (some ⟨pb,0,none⟩),.slice a l.length c,.int .i64 self,.int .i64 next] w (NY B0 pb name room cs cms k M n l self next w):=by
 obtain⟨C,an,S,au,am,ao,ap,ak,al,ad,E,⟨rfl,rfl⟩,i,j⟩:=D;refine(E.step l a c B K G L O H (λb d=>(j b d).2) I J (by simpa using F) i self next).mono ?_;rintro ai aq (⟨Y,rfl,e⟩|⟨ab,f,sa,sl,sc,pa,pl,pc,ka,kl,kc,rfl,e⟩)
 ·exact ae ⟨Y,rfl,e.out⟩
 ·obtain⟨X,P,o,p,r,s,t,u,v,x,g,y,⟨U,aa,T,V,Z,Q,R,ag,z,A,h⟩,q⟩:=e.out;refine af ⟨ab,f,sa,sl,sc,pa,pl,pc,ka,kl,kc,rfl,X,o,p,r,s,t,u,v,x,g,y,⟨C,U,_,aa,T,V,Z,Q,R,_,z.inside (N:=12),⟨A,h⟩,aw i g.size,λb d=>⟨?_,d.2⟩⟩,?_,q⟩
  ·rcases d.1 with m|m
   ·exact(j b m).1
   ·omega
  ·rw[<-h,fA,fA];exact List.length_eraseIdx_le S P
end
theorem P1.new(n:Nat)(x:Tm (n+1))(room:Int)(name:ByteArray)(w:World)(m:name.size<=9223372036854775807)(o:In w.heap.size w (n+1) x)(k:(ar (n+1) x).length<=2097152):ah 39 #[.string name,dd (n+1) x,.int .i64 room] w λe w'=>∃p:Option Addr,e=.returned (.tuple #[.pointer p,.int .i64 (fK (n+1) x room name)])/\Hid (ag w w'/\(fK (n+1) x room name≠0->p=none)/\(fK (n+1) x room name=0->∃a,p=some ⟨a,0,none⟩/\w.heap.size<=a/\bm (n+1) x=0/\P1 w.heap.size a name room (cn (n+1) x) [] 201 (λb=>w.heap.size<=b/\b<w'.heap.size) w')):=by
 refine(Nu n x room name w m o k).mono ?_;rintro e w' ⟨i,j⟩;by_cases c:fK (n+1) x room name=0
 ·obtain⟨a,rfl,g⟩:=j c;obtain⟨q,f,r,v,z,u,y,h,s,t⟩:=g.out;exact⟨some ⟨a,0,none⟩,by rw[c],f,λd=>absurd c d,λ_=>⟨a,rfl,q,r,w.heap.size,v,[],z,u,y,[],none,0,h,t,⟨s,rfl⟩,f.size,λb d=>d⟩⟩
 ·obtain⟨rfl,l⟩:=i c;exact⟨none,rfl,l,λ_=>rfl,λd=>absurd d c⟩
structure BL where
 b:Nat
 o:Nat
 c:Array Value
 t:TypeId
def sB(p:BL)(a:Option Nat)(w:World):Prop:=(p.o<p.c.size/\p.t≠30)/\w.heap[p.b]?=some (.cells (p.c.setIfInBounds p.o (.map a)) p.t (0,0))
theorem sB.cell{p:BL}{c:Option Nat}{w:World}(a:sB p c w):w.cell? ⟨p.b,p.o,none⟩=some (.map c)/\∀j,w.frozen? ⟨p.b,j,none⟩=false:=by
 refine⟨?_,λj=>by simp[World.frozen?,a.2]⟩;simp[World.cell?,a.2,a.1.1]
theorem sB.lt{p:BL}{c:Option Nat}{w:World}(a:sB p c w):p.b<w.heap.size:=(aA.1 a.2).1
theorem sB.kept{p:BL}{c:Option Nat}{w w':World}(a:sB p c w)(d:w'.heap[p.b]?=w.heap[p.b]?):sB p c w':=⟨a.1,d.trans a.2⟩
theorem sB.set{p:BL}{c mo':Option Nat}{w:World}(a:sB p c w):sB p mo' (w.setCell ⟨p.b,p.o,none⟩ (.map mo')):=by
 refine⟨a.1,?_⟩;simp[World.setCell,bC,a.2]
def gI(base:Nat)(d:BL)(a:Option Nat)(n N:Nat)(f:Int×Int->List (Tm N))(sl:Int×Int->Value)(w:World):Prop:=
 base<=d.b/\sB d a w/\((a=none/\f=(λ_=> [])/\sl=λ_=>lK)\/∃c,a=some c/\GM base c n N f sl w)
def qR(c:BL)(a:Option Nat)(sl:Int×Int->Value)(b:Nat):Prop:=b=c.b\/a=some b\/∃k,I2 k/\(sl k).ownBlock=some b
variable {base n N:Nat} {wp:BL} {mo:Option Nat} {f:Int×Int->List (Tm N)} {sl:Int×Int->Value} {w:World}
theorem gI.lt(c:gI base wp mo n N f sl w)(b:Nat)(a:qR wp mo sl b):base<=b/\b<w.heap.size:=by
 obtain⟨d,e,g⟩:=c;rcases a with rfl|a
 ·exact⟨d,e.lt⟩
 ·rcases g with⟨rfl,_,rfl⟩|⟨i,rfl,h⟩
  ·rcases a with a|⟨k,_,a⟩
   ·cases a
   ·simp[lK,Value.ownBlock]at a
  ·refine h.lt b ?_;rcases a with a|a
   ·exact ae (aq a).symm
   ·exact af a
theorem DV{wp:BL}{c b:Nat}{sl:Int×Int->Value}(a:LI c sl b):qR wp (some c) sl b:=by
 rcases a with rfl|a
 ·exact af (ae rfl)
 ·exact af (af a)
theorem gI.kee{S:Nat->Prop}{w':World}(c:gI base wp mo n N f sl w)(k:bi S w w')(d:∀b,qR wp mo sl b->¬S b):gI base wp mo n N f sl w':=by
 have j:=(c.lt wp.b (ae rfl)).2;obtain⟨e,g,a⟩:=c;refine⟨e,g.kept (k.block wp.b j (d wp.b (ae rfl))),?_⟩;rcases a with a|⟨l,rfl,i⟩
 ·exact ae a
 ·exact af ⟨l,rfl,i.kee k λb h=>d b (DV h)⟩
theorem gI.later{w':World}(a:gI base wp mo n N f sl w)(k:ag w w'):gI base wp mo n N f sl w':=a.kee (aE k λ_=>False) λ_ _ b=>b
theorem gI.row(a:gI base wp mo n N f sl w){k:Int×Int}(c:I2 k):ng base N (sl k) (f k) w:=by
 rcases a.2.2 with⟨_,rfl,rfl⟩|⟨d,_,b⟩
 ·exact⟨by simp[dc,ch],ae ⟨rfl,rfl⟩⟩
 ·exact b.row k c
theorem gI.look(b:gI base wp mo n N f sl w){k:Int×Int}(a:I2 k):(Instr.lookup 63 (.map mo) (pk k) false).run Tryz.prog w=.ok (sl k) w:=by
 rcases b.2.2 with⟨rfl,_,rfl⟩|⟨d,rfl,c⟩
 ·exact Fr w a
 ·exact c.look a
theorem gI.cell(a:gI base wp mo n N f sl w):w.cell? ⟨wp.b,wp.o,none⟩=some (.map mo)/\∀j,w.frozen? ⟨wp.b,j,none⟩=false:=by
 exact a.2.1.cell
theorem ng.sliced{v:Value}{l:List (Tm N)}(d:ng base N v l w):∃a c,v=.slice a l.length c:=by
 rcases d.2 with⟨rfl,b⟩|⟨f,cap,e,rfl,_⟩
 ·exact⟨none,0,by rw[b]⟩
 ·exact⟨_,_,rfl⟩
theorem GG(c:gI base wp mo n N f sl w){a b:Int}(g:I2 (a,b)):ah 144 #[.pointer (some ⟨wp.b,wp.o,none⟩),.int .i64 a,.int .i64 b] w λe w'=>e=.returned (.int .i64 (f (a,b)).length)/\w'=w:=by
 have i:=c.cell.1;obtain⟨sa,sc,h⟩:=(c.row g).sliced;have d:=c.look g;rw[h]at d;unfold pk at d;simp only at d;clear c;go_enter Tryz.func144,Tryz.ntmps144;go_wp2_with fail
 go_ret
 exact⟨rfl,rfl⟩
theorem D7(a:Int)(w:World):ah 143 #[.int .i64 a] w λe w'=>e=.returned (.bool (decide (1<=a) && decide (a<=99)))/\w'=w:=by
 go_enter Tryz.func143,Tryz.ntmps143;by_cases b:1<=a<;>by_cases c:a<=99
 all_goals
  go_wp2_with fail
  go_ret
  simp[b,c]
variable {base mb n N:Nat} {f:Int×Int->List (Tm N)} {sl:Int×Int->Value} {w wr:World}
def LY(base mb n N:Nat)(f:Int×Int->List (Tm N))(sl:Int×Int->Value)(k:Int×Int)(g:Nat)(W e:World):Prop:=
 ∀(a:World)(c:Value)(l:List (Tm N)),a.heap[mb]?=e.heap[mb]? ->bi (λb=>b=mb\/(sl k).ownBlock=some b) W a->l≠[]->ng base N c l a->(∀b,c.ownBlock=some b->(sl k).ownBlock=some b\/W.heap.size<=b)->
  ∃d,(Instr.entryStore 63 (.map (some mb)) (goInt g) c).run Tryz.prog a=.ok () d/\GM base mb (n+1) N (gH f k l) (gH sl k c) d/\bi (λb=>b=mb) a d/\d.heap.size=a.heap.size
def NS(base mb n N:Nat)(f:Int×Int->List (Tm N))(sl:Int×Int->Value)(k:Int×Int)(y:Tm N)(wr c:World):Prop:=
 ∃a,GM base mb (n+1) N (gH f k (f k++ [y])) (gH sl k a) c/\bi (LI mb sl) wr c/\∀b,LI mb (gH sl k a) b->LI mb sl b\/wr.heap.size<=b
theorem GM.open(d:GM base mb n N f sl wr){k:Int×Int}(h:I2 k)(i:n<1000000){W:World}(e:ag wr W):∃(c:Nat)(a:World),(Instr.mapEntry 63 (.map (some mb)) (pk k)).run Tryz.prog W=.ok (.tuple #[sl k,goInt c]) a/\bi (λb=>b=mb) W a/\a.heap.size=W.heap.size/\LY base mb n N f sl k c W a:=
 (d.kee (aE e λ_=>False) λ_ _ g=>g).entry h i
theorem LY.done(o:GM base mb n N f sl wr){k:Int×Int}(s:I2 k){w L:Nat}{W i j e:World}(B:LY base mb n N f sl k w W i)(q:ag wr W)(J:bi (λb=>b=mb) W i)(M:i.heap.size=W.heap.size)(l:ag i j)(D:j.grownBy e (sl k).ownBlock){g c:Nat}{y:Tm N}(z:(f k).length=L)(F:e.ownsRow base 30 4 (.slice (some ⟨g,0,none⟩) (L+1) c) (L+1) (dc N (f k)++ur (fQ N y)))(A:(sl k).ownBlock=some g\/g=j.heap.size):∃h,(Instr.entryStore 63 (.map (some mb)) (goInt w) (.slice (some ⟨g,0,none⟩) (L+1) c)).run Tryz.prog e=.ok () h/\NS base mb n N f sl k y wr h/\bi (λb=>b=mb) e h/\h.heap.size=e.heap.size:=by
 subst z;have K:=o.lt mb (ae rfl);have P:=q.size;have O:=l.size;have v:=dP D;have I:(Value.slice (some ⟨g,0,none⟩) ((f k).length+1) c).ownBlock=some g:=rfl;have u:∀b,(Value.slice (some ⟨g,0,none⟩) ((f k).length+1) c).ownBlock=some b->(sl k).ownBlock=some b\/W.heap.size<=b:=λb d=>by
  rw[I]at d;injection d with d;subst d;rcases A with a|a
  ·exact ae a
  ·exact af (by omega)
 have p:bi (λb=>b=mb\/(sl k).ownBlock=some b) W e:=by
  refine bi.trans (bi.trans (J.mono λb _ a=>ae a) (aE l λ_=>False) λ_ _ C=>C.elim) v λb _ a=>af a
 have E:e.heap[mb]?=i.heap[mb]? :=(v.block mb (by omega) (o.ne s)).trans (l.block mb (by omega))
 obtain⟨h,G,x,t,H⟩:=B e _ (f k++ [y]) E p (by simp) (by
  unfold ng;rw[oV,aY];have a:dc N [y]=ur (fQ N y):=by simp[dc,ch]
  rw[a]
  exact F) u
 refine⟨h,G,⟨_,x,?_,λb d=>?_⟩,t,H⟩
 ·refine bi.trans (bi.trans (aE q _) (p.mono (T:=λb=>b=mb\/(sl k).ownBlock=some b) λb _ a=>a) λb _ a=>?_) t λb _ a=>ae a;rcases a with a|a
  ·exact ae a
  ·exact af ⟨k,s,a⟩
 ·rcases d with d|⟨m,r,d⟩
  ·exact ae (ae d)
  ·by_cases a:m=k
   ·subst a;rw[cD]at d;rcases u b d with a|a
    ·exact ae (af ⟨m,r,a⟩)
    ·exact af (by omega)
   ·rw[bJ _ _ a]at d;exact ae (af ⟨m,r,d⟩)
section
variable {ops:Array Oper} {o:Oper} {a:Act} {K:Act->World->Prop} {Q:Exit->Act->World->Prop} {E:Prop}
end
end Go.Proofs.YtckamaoibonjcaaGreat
