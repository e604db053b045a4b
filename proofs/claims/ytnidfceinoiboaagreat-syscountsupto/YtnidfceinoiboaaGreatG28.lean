/- What is proved here: plain facts and contracts that the claimed theorem stands on. No condition but those that each names. -/
import Derived.Test.YtnidfceinoiboaaGreatG27
namespace Go.Proofs.YtnidfceinoiboaaGreat
open Go.RowKit
open Go.RowKit Go.Maps
theorem FH{a d:Type}{l r:List a}(c:List.Sublist l r)(f:a->List d):List.Sublist (l.flatMap f) (r.flatMap f):=by
 induction c with
 | slnil=>exact List.Sublist.refl _
 | cons b _ ih=>
  simp only[bj];exact ih.trans (List.sublist_append_right _ _)
 | cons_cons b _ ih=>
  simp only[bj];exact List.Sublist.append (List.Sublist.refl _) ih
theorem Jp{b:Type}{l r:List b}(c:List.Sublist l r)(f:b->Int)(d:∀a,0<=f a):(l.map f).sum<=(r.map f).sum:=by
 induction c with
 | slnil=>exact il _
 | cons a _ ih=>
  simp only[aH,bt];have:=d a;omega
 | cons_cons a _ ih=>
  simp only[aH,bt];omega
theorem jq.erase{N:Nat}{ws:List Wd}{nm:List ByteArray}{room:Int}{d:Wd}{vs:List Wd}{s:Tm (N+1)}{ms:List (Tm (N+1))}(l:jq (N+1) ws nm room (d::vs) (s::ms))(i:Nat):jq (N+1) ws nm room (d::vs.eraseIdx i) (s::ms.eraseIdx i):=by
 obtain⟨f,o,p,v,q,r,t,u⟩:=l;have m:vs.length=ms.length:=by simpa using f.1
 have n:List.Sublist (d::vs.eraseIdx i) (d::vs):=(List.eraseIdx_sublist vs i).cons_cons d;have j:List.Sublist (s::ms.eraseIdx i) (s::ms):=(List.eraseIdx_sublist ms i).cons_cons s;refine⟨⟨by simp[List.length_eraseIdx,m],λc g e b a=>?_⟩,(FH n _).nodup o,λe a=>p e (j.subset a),?_,q,r,t,u⟩
 ·cases c with
  | zero=>
   simp only[cH,jW]at b a;exact f.2 0 g e (by simp[b]) (by simp[a])
  | succ c=>
   simp only[cT,List.getElem?_eraseIdx]at b a;by_cases h:c<i
   ·rw[if_pos h]at b a;exact f.2 (c+1) g e (by simpa using b) (by simpa using a)
   ·rw[if_neg h]at b a;exact f.2 (c+2) g e (by simpa using b) (by simpa using a)
 ·have:=Jp j (sz (N+1)) λk=>(eC (N+1) k).1;omega
section
variable {base pb:Nat} {name:ByteArray} {room:Int} {N:Nat} {s:Tm (N+1)} {ms:List (Tm (N+1))} {nk:Nat} {M:Nat->Prop} {w:World} {ws:List Wd} {nm:List ByteArray} {sv:Wd} {vs:List Wd} {ma:Option Addr} {mc:Nat} {Mh:Nat->Prop}
theorem cd.dropped(a:cd base pb name room (N+1) s ms [] nk M w ws nm sv vs ma mc Mh)(i:Nat){w1:World}{g:Nat}(x:¬Mh g)(l:bf (λb=>b=g) w w1)(v:jd Mh ma (vs.eraseIdx i) mc w1)(u:M g):cd base pb name room (N+1) s (ms.eraseIdx i) [] nk M (w1.setCell ⟨pb,7,none⟩ (.slice ma (vs.eraseIdx i).length mc)) ws nm sv (vs.eraseIdx i) ma mc Mh/\bD M w (w1.setCell ⟨pb,7,none⟩ (.slice ma (vs.eraseIdx i).length mc)):=by
 obtain⟨m,z⟩:=a.box0;have q:dy base (PL pb name sv (.slice ma vs.length mc)) room ws nm Mh w1:=a.heap.kept (iE l) λb r _ c=>x (by rw[<-c];exact r);have k:=aY w1 pb 7 (.slice ma (vs.eraseIdx i).length mc);have j:=a.has;simp only[bQ,ee]at j;refine⟨⟨q.turn k λB A mp t=>?_,?_,?_,?_,a.names,a.inM,a.mailM⟩,?_⟩
 ·unfold World.setCell;simp[bJ,t]
 ·rcases v with d|⟨h,y,n,o,e,f,p⟩
  ·exact ae d
  ·exact af ⟨h,y,n,o,e,(k.block h (aE.1 f).1 λd=>e (by rw[d];exact m)).trans f,p⟩
 ·simp only[bQ,ee];exact j.erase i
 ·simp[List.length_eraseIdx,a.len]
 ·refine bD.trans ((iE l).mono λb c=>?_) k λb _ c=>?_
  ·rw[c];exact u
  ·rw[c];exact a.inM pb m
theorem cd.delete(a:cd base pb name room (N+1) s ms [] nk M w ws nm sv vs ma mc Mh)(i:Nat)(H:i<ms.length)(G:ms.length<=1000):Calls Tryz.prog 60 #[.slice ma vs.length mc,.int .i64 i,.int .i64 ((i:Int)+1)] w λe w'=>e=.returned (.slice ma (vs.eraseIdx i).length mc)/\Hid (bf M w w'/\w'.cell? ⟨pb,7,none⟩=some (.slice ma vs.length mc)/\w'.frozen? ⟨pb,7,none⟩=false/\ cd base pb name room (N+1) s (ms.eraseIdx i) [] nk M (w'.setCell ⟨pb,7,none⟩ (.slice ma (vs.eraseIdx i).length mc)) ws nm sv (vs.eraseIdx i) ma mc Mh/\bD M w (w'.setCell ⟨pb,7,none⟩ (.slice ma (vs.eraseIdx i).length mc))):=by
 have k:=a.len;obtain⟨E,m⟩:=a.box0;have f:(vs.eraseIdx i).length=vs.length-1:=by rw[List.length_eraseIdx,if_pos (by omega)]
 rcases a.mail with⟨_,e,_⟩|⟨g,n,u,rfl,d,x,y,z,A,B⟩
 ·rw[e]at k;simp at k;omega
 ·refine(ww g n mc i vs u w (by omega) x y (by omega) A B).mono ?_;rintro e w' ⟨rfl,o⟩;obtain⟨c,I,v,p,F,q⟩:=o.out;have j:=a.mailM _ rfl;have l:¬pb=g:=λe=>d (by rw[<-e];exact E);obtain⟨L,J,K,C,_⟩:=a.heap.box;obtain⟨_,_,_,r,t,_⟩:=PL.cells C;have D:=a.dropped i (w1:=w') (g:=g) d c (af ⟨g,n,v,rfl,d,p,by omega,z,by omega,by rw[f];exact q⟩) j;refine⟨by rw[f],c.mono λb _ e=>by rw[e];exact j,(c.cell 7 m l).trans r,?_,D⟩;have h:=t 7;unfold World.frozen? at h ⊢;rw[c.block pb m l];exact h
end
def qR(n:Nat)(room:Int)(l:List (Bh (n+1)))(name:ByteArray)(self next:Int)(s:Tc)(ms:List Tc):Int:=
 if mz n l≠0 then mz n l else if (decide (1<=self) && decide (self<=99) && decide (1<=next) && decide (next<=92))=false then 1 else if (ng room l name self next s ms).isSome then 0 else 4
def kS(c:Nat)(sends:List (Int×Tc))(spawns:List (Int×ByteArray×Tc))(links:List Int)(sa:Option Addr)(sl sc:Nat)(pa:Option Addr)(pl pc:Nat)(ka:Option Addr)(kl kc:Nat)(P:Nat->Prop)(w:World):Prop:=
 ∃(f:Nat)(d:List (Int×Tm (f+1)))(e:List (Int×ByteArray×Tm (f+1))),(d.length=sl/\e.length=pl/\links.length=kl)/\w.ownsRow c 153 5 (.slice sa sl sc) sl (d.flatMap λa=>JN a.1 a.2)/\w.ownsRow c 150 6 (.slice pa pl pc) pl (e.flatMap λa=>KI a.1 a.2.1 a.2.2)/\w.ownsRow c 3 1 (.slice ka kl kc) kl (links.map λg=> .int .i64 g)/\
  d.map (λa=>(a.1,cn _ a.2))=sends/\e.map (λa=>(a.1,a.2.1,cn _ a.2.2))=spawns/\(∀a∈d,bA _ a.2=0/\In w.heap.size w _ a.2/\ch (λb=>c<=b/\P b) _ a.2)/\(∀a∈e,bA _ a.2.2=0/\In w.heap.size w _ a.2.2/\ch (λb=>c<=b/\P b) _ a.2.2)/\∀b,((Value.slice sa sl sc).ownBlock=some b\/(Value.slice pa pl pc).ownBlock=some b\/(Value.slice ka kl kc).ownBlock=some b)->c<=b/\P b
theorem kS.kept{f:Nat}{sends:List (Int×Tc)}{spawns:List (Int×ByteArray×Tc)}{links:List Int}{sa:Option Addr}{sl sc:Nat}{pa:Option Addr}{pl pc:Nat}{ka:Option Addr}{kl kc:Nat}{P:Nat->Prop}{w w':World}(v:kS f sends spawns links sa sl sc pa pl pc ka kl kc P w){S:Nat->Prop}(r:bf S w w')(o:∀q,f<=q->P q->q<w.heap.size->¬S q):kS f sends spawns links sa sl sc pa pl pc ka kl kc P w':=by
 obtain⟨u,H,I,x,y,z,A,B,C,g,h,i⟩:=v;have p:∀{e:Nat}{m:Tm e},In w.heap.size w e m->ch (λq=>f<=q/\P q) e m->In w'.heap.size w' e m:=λF G=>F.kee (r.mono (T:=λb=>S b/\b<w.heap.size) λb D q=>⟨q,D⟩) (G.mono λq c (a:S q/\q<w.heap.size)=>o q c.1 c.2 a.2 a.1);have l:∀{k:TypeId}{a e:Nat}{j:Value}{n:List Value},w.ownsRow f k a j e n->(∀q,j.ownBlock=some q->f<=q/\P q)->w'.ownsRow f k a j e n:=λ{k a e j n} s t=>aT s r λq c=>by
  obtain⟨J,E⟩:=dT s q c;exact o q (t q c).1 (t q c).2 (aE.1 E).1
 exact⟨u,H,I,x,l y λq c=>i q (ae c),l z λq c=>i q (af (ae c)),l A λq c=>i q (af (af c)),B,C,λa d=>⟨(g a d).1,p (g a d).2.1 (g a d).2.2,(g a d).2.2⟩,λa d=>⟨(h a d).1,p (h a d).2.1 (h a d).2.2,(h a d).2.2⟩,i⟩
theorem kS.none(c:Nat)(P:Nat->Prop)(w:World):kS c [] [] [] none 0 0 none 0 0 none 0 0 P w:=
 ⟨0,[],[],⟨rfl,rfl,rfl⟩,eg _ _ _ _,eg _ _ _ _,eg _ _ _ _,rfl,rfl,λd b=>(by cases b),λd b=>(by cases b),λe a=>by
  rcases a with a|a|a<;>cases a⟩
def LZ(r q:Nat)(name:ByteArray)(room:Int)(s:Tc)(ms:List Tc)(o:Nat)(M:Nat->Prop)(n:Nat)(l:List (Bh (n+1)))(self next:Int)(w:World)(e:Ending)(w':World):Prop:=
 (∃g,e=.returned (.tuple #[Js,.int .i64 g])/\Hid (g≠0/\g=qR n room l name self next (cn 13 s) (ms.map (cn 13))/\Below w.heap.size w w'))\/
  ∃(a:Tc)(f:Int)(sa:Option Addr)(sl sc:Nat)(pa:Option Addr)(pl pc:Nat)(ka:Option Addr)(kl kc:Nat),e=.returned (.tuple #[KY a.1.1 a.1.2.1 a.1.2.2 a.2.1.1 a.2.2.length a.2.1.2 f sa sl sc pa pl pc ka kl kc,.int .i64 0])/\Hid (∃b h d,qR n room l name self next (cn 13 s) (ms.map (cn 13))=0/\ng room l name self next (cn 13 s) (ms.map (cn 13))=some b/\f=b.fate/\cn 13 a=b.message/\bA 13 a=0/\In w'.heap.size w' 13 a/\ch (λc=>w.heap.size<=c/\c<d) 13 a/\bD M w w'/\w.heap.size<d/\
   (∃i v p t u k m j,cd r q name room 13 i (ms.eraseIdx h) [] (o+402) (λc=>M c\/d<=c) w' v p t u k m j/\cn 13 i=b.state/\(ms.eraseIdx h).map (cn 13)=b.mail)/\kS (w.heap.size+1) b.sends b.spawns b.links sa sl sc pa pl pc ka kl kc (λ_=>True) w')
theorem Ko{n:Nat}(room self next:Int)(s m:Tc)(ms:List Tc)(c:Cl (n+1))(b:List Tc):eV room self next s m ms c b={eV room self next s s ms c b with message:=m}:=by
 unfold eV;cases qA self c.2.2 ⟨b,next,[],[],[],false⟩with
 | none=>rfl
 | some e=>
  cases d:qn e.b self (n+1) c.1.2.2 with
  | none=>simp only[d]
  | some t=>
   simp only[d];by_cases a:(ms.map (sz 13)).sum+sz 13 t<=room
   ·simp only[if_pos a]
   ·simp only[if_neg a]
theorem Dv{n:Nat}{room self next:Int}{s m:Tc}{ms:List Tc}{c:Cl (n+1)}{b:List Tc}(a:¬((eV room self next s m ms c b).fate=0\/(eV room self next s m ms c b).fate=1)):(eV room self next s m ms c b).sends=[]/\(eV room self next s m ms c b).spawns=[]/\(eV room self next s m ms c b).links=[]:=by
 unfold eV at a ⊢;cases hd:qA self c.2.2 ⟨b,next,[],[],[],false⟩with
 | none=>exact⟨rfl,rfl,rfl⟩
 | some d=>
  rw[hd]at a;cases f:qn d.b self (n+1) c.1.2.2 with
  | none=>simp[f]
  | some t=>
   simp only[f]at a ⊢;by_cases e:(ms.map (sz 13)).sum+sz 13 t<=room
   ·simp only[if_pos e]at a;cases hst:d.stops<;>simp[hst]at a
   ·simp[if_neg e]
theorem Du{n:Nat}(room self next:Int)(s m:Tc)(ms:List Tc)(c:Cl (n+1))(b:List Tc):(eV room self next s m ms c b).mail=ms:=by
 unfold eV;cases qA self c.2.2 ⟨b,next,[],[],[],false⟩with
 | none=>rfl
 | some e=>
  cases d:qn e.b self (n+1) c.1.2.2 with
  | none=>simp only[d]
  | some t=>
   simp only[d];by_cases a:(ms.map (sz 13)).sum+sz 13 t<=room
   ·simp only[if_pos a]
   ·simp only[if_neg a]
theorem pn.keptS{D:Nat}{l:List (Tm D)}{B:List Tc}{d:Nat}{w w':World}{b h:Nat}{S:Nat->Prop}(a:pn D l B d w b h)(c:bf S w w')(g:∀q,d<=q->¬S q):pn D l B d w' b h:=by
 obtain⟨e,f⟩:=a.new;refine⟨a.bnd,a.tells,a.cap,⟨e,aL f c.size⟩,λn t m=>?_,λo=>?_⟩
 ·obtain⟨p,r,j⟩:=a.at' n t m;exact⟨p.kee c f (g b e),r.kee c (j.mono λs k=>g s k.1),j⟩
 ·have i:=a.free o;unfold World.frozen? at i ⊢;rw[c.block b f (g b e)];exact i
theorem uS{n B:Nat}{w:World}{p:Option Addr}{l:List (Bh (n+1))}(j:fx (n+1) B w p l)(name:ByteArray):∃e d g,Iw (n+1) (gm (n+1) name l)=.slice e d g/\(gV name l).length=d/\oF B w 13 (ex (n+1)) (gj (n+1) B w) e (gV name l)/\(gV name l=[]\/∃b∈l,gV name l=b.2.2):=by
 have k:∀(l:List (Bh (n+1))) b,gm (n+1) name l=some b->b∈l:=by
  intro l
  induction l with
  | nil=>intro b a;cases a
  | cons q l ih=>
   intro b a;simp only[gm]at a;split at a
   ·obtain rfl:=ap a;simp
   ·exact bR _ (ih b a)
 unfold gV;cases hb:gm (n+1) name l with
 | none=>exact⟨none,0,0,rfl,rfl,ae rfl,ae rfl⟩
 | some b=>
  have c:=k l b hb;refine⟨_,_,_,rfl,rfl,?_,af ⟨b,c,rfl⟩⟩;rcases j with f|⟨s,o,f,r,h⟩
  ·rw[f]at c;cases c
  ·obtain⟨m,i⟩:=cB c;exact((h m b i).2).2.2
theorem cd.step{aj J n:Nat}{name:ByteArray}{room:Int}{s:Tc}{ms:List Tc}{ai:Nat}{M:Nat->Prop}{w:World}{ws:List Wd}{nm:List ByteArray}{bm:Wd}{vs:List Wd}{ma:Option Addr}{ay:Nat}{Mh:Nat->Prop}(S:cd aj J name room 13 s ms [] ai M w ws nm bm vs ma ay Mh)(l:List (Bh (n+1)))(Z:Option Addr)(L B:Nat)(a0:fx (n+1) B w Z l)(Q:B<=w.heap.size)(b1:l.length<=L)(be:L<=maxLen)(bG:jy (n+1) l=true->(aq (n+6) (cR n l)).length<=2097152)(R:∀b,M b->b<w.heap.size)(bH:∀W,bf M w W->fx (n+1) B W Z l)(cu:ai<=47000)(cp:ms.length<=999)(cq:aj<=w.heap.size)(self next:Int):Calls Tryz.prog 34 #[.pointer (some ⟨J,0,none⟩),.slice Z l.length L,.int .i64 self,.int .i64 next] w (LZ aj J name room s ms ai M n l self next w):=by
 obtain⟨b5,b6⟩:=S.box0 (N:=12);obtain⟨cF,cx,cA,bI,_⟩:=S.heap.box;obtain⟨bt,_,_,cm,co,_⟩:=PL.cells bI;obtain⟨aS,bv,a8,bR,bP,bS,bQ⟩:=uS a0 name;have ct:L<=9223372036854775807:=by unfold maxLen at be;omega
 have bc:mz n l=0->(∀c∈gV name l,Hz c)/\(gV name l).length<=6:=λq=>by
  obtain⟨_,bg⟩:=Ja q;rcases bQ with d|⟨b,r,d⟩
  ·rw[d];exact⟨λc bK=>(by cases bK),aD _⟩
  ·rw[d];exact⟨(bg b r).2,(bg b r).1⟩
 have aY:∀(g:Nat)(t:Tc),(ms.map (cn 13))[g]?=some t->g<ms.length:=λg t an=>by
  have:=(aK.1 an).1;simpa using this
 refine(Eu J name Z l.length L self next (mz n l) aS bv a8 w (uQ (gV name l) (cn 13 s) (ms.map (cn 13)) 0=none)
  (λg i c v F u=>∃j A E,Below w.heap.size w u/\(1<=self/\self<=99/\1<=next/\next<=92)/\mz n l=0/\uQ (gV name l) (cn 13 s) (ms.map (cn 13)) 0=some (g,c,j)/\c∈gV name l/\(ms.map (cn 13))[g]?=some (cn 13 i)/\bA 13 i=0/\In u.heap.size u 13 i/\ch (λa=>w.heap.size<a/\a≠v) 13 i/\pn (A+1) E j (w.heap.size+1) u v F)
  (λg i c v F u=>∃j A E aM aF aH aJ aw aA al,cd aj J name room 13 s (ms.eraseIdx g) [] ai M u aM aF aH aJ aw aA al/\bD M w u/\(1<=self/\self<=99/\1<=next/\next<=92)/\mz n l=0/\uQ (gV name l) (cn 13 s) (ms.map (cn 13)) 0=some (g,c,j)/\c∈gV name l/\(ms.map (cn 13))[g]?=some (cn 13 i)/\bA 13 i=0/\In u.heap.size u 13 i/\ch (λa=>w.heap.size<a/\a≠v) 13 i/\pn (A+1) E j (w.heap.size+1) u v F)
  (λg i c f sa sl sc pa pl pc ka kl kc P=>∃j aa,uQ (gV name l) (cn 13 s) (ms.map (cn 13)) 0=some (g,c,j)/\(ms.map (cn 13))[g]?=some (cn 13 i)/\bA 13 i=0/\In P.heap.size P 13 i/\ch (λa=>w.heap.size<a/\a<aa) 13 i/\w.heap.size<aa/\bD M w P/\f=(eV room self next (cn 13 s) (cn 13 s) ((ms.eraseIdx g).map (cn 13)) c j).fate/\
   (∃O aM aF aH aJ aw aA al,cd aj J name room 13 O (ms.eraseIdx g) [] (ai+402) (λa=>M a\/aa<=a) P aM aF aH aJ aw aA al/\cn 13 O=(eV room self next (cn 13 s) (cn 13 s) ((ms.eraseIdx g).map (cn 13)) c j).state)/\
   kS (w.heap.size+1) (eV room self next (cn 13 s) (cn 13 s) ((ms.eraseIdx g).map (cn 13)) c j).sends (eV room self next (cn 13 s) (cn 13 s) ((ms.eraseIdx g).map (cn 13)) c j).spawns (eV room self next (cn 13 s) (cn 13 s) ((ms.eraseIdx g).map (cn 13)) c j).links sa sl sc pa pl pc ka kl kc (λ_=>True) P)
  _ M b6 R (S.inM J b5) rfl ?_ bt ?_ ?_ ?_ ?_).mono ?_
 ·intro W k;refine(G6 n l Z L b1 be B W (a0.below (k.mono Q)) (au Q k.size) bG).mono ?_;rintro d K ⟨i,rfl,x⟩;exact⟨_,_,_,_,_,_,rfl,x.out.1⟩
 ·intro W _ k;refine(sR (n+1) name l Z L l.length B W rfl (by omega) (au Q k.size) (a0.below (k.mono Q))).mono ?_;rintro d K ⟨rfl,r⟩;exact⟨by rw[bR],r⟩
 ·intro W q y k;simp only[az,bN]at y;obtain⟨a1,b2⟩:=bc q;have bb:=AE (S.later (N:=12) k) (gV name l) aS a8 B ((bZ (dW (n+1)) 13 (ex (n+1)) aS).below (k.mono Q) bS) (au Q k.size) a1 (by omega) (by omega) (by omega);rw[bP]at bb;refine bb.mono ?_;rintro d K (⟨bE,rfl,x⟩|⟨g,i,c,v,F,rfl,x⟩)
  ·exact ae ⟨rfl,x.out,bE⟩
  ·obtain⟨j,A,E,G,H,z,I,bj,V,X,D⟩:=x.out;have cb:=k.size;have ah:=D.new;have aX:=aY g _ z;exact af ⟨g,i,c,v,F,rfl,bj,by omega,ah.2,by omega,j,A,E,k.trans (bj.mono cb),⟨y.1.1.1,y.1.1.2,y.1.2,y.2⟩,q,G,H,z,I,V,X.mono λa h=>⟨by omega,h.2⟩,D.mono (by omega)⟩
 ·rintro g i c v F u W ⟨j,A,E,aT,T,q,G,H,z,I,V,X,D⟩ k;have aU:=aT.trans (k.mono aT.size);have aX:=aY g _ z;obtain⟨cG,cy,cC,bJ,_⟩:=(S.later (N:=12) aU).heap.box;obtain⟨_,_,_,bu,bw,_⟩:=PL.cells bJ;refine⟨ma,vs.length,ay,⟨bu,bw 7⟩,λbs ap=>?_⟩;have a9:=aU.trans (ap.mono aU.size);refine((S.later (N:=12) a9).delete (N:=12) g aX (by omega)).mono ?_;rintro d K ⟨rfl,x⟩;obtain⟨ce,cf,cg,ci,a4⟩:=x.out;have b8:=aT.size;refine⟨ma,_,ay,rfl,ce,cf,cg,j,A,E,ws,nm,bm,_,ma,ay,Mh,ci,(aR a9 M).trans a4 λ_ _ d=>d,T,q,G,H,z,I,?_,X,?_⟩
  ·exact(((V.below k).mono k.size |>.below ap).mono ap.size).kee (gB a4) (X.mono λa h e=>by have:=R a e;omega)
  ·exact((D.keptS (aC k (λ_=>False)) (λ_ _ d=>d)).keptS (aC ap (λ_=>False)) (λ_ _ d=>d)).keptS (gB a4) λa h e=>by have:=R a e;omega
 ·rintro g i c v F u W ab ⟨j,A,E,aM,aF,aH,aJ,aw,aA,al,b4,aZ,T,q,G,H,z,I,V,X,D⟩ k cr ba;obtain⟨a1,b2⟩:=bc q;have Y:=D.keptS (aC k (λ_=>False)) (λ_ _ d=>d);have ah:=D.new;have b8:=aZ.size;have ca:=k.size;have aX:=aY g _ z;have cs:ab<W.heap.size:=(aE.1 ba).1;have bU:dV (w.heap.size+1) ab self n A 0 next ⟨j,next,[],[],[],false⟩ W E v F [] [] (.slice none 0 0) (.slice none 0 0) (.slice none 0 0):=by
   refine⟨ba,⟨by omega,by omega,ah.1,Y.new.2,by omega⟩,Y.bnd,Y.tells,λU e p=>⟨(Y.at' U e p).1,(Y.at' U e p).2.1,(In.offB (D.at' U e p).2.2 (D.at' U e p).2.1).mono λa h=>⟨h.1.1,λm=>?_⟩⟩,Y.free,eg _ _ _ _,eg _ _ _ _,eg _ _ _ _,rfl,rfl,λe p=>(by cases p),λe p=>(by cases p),⟨⟨λd=>(by cases d),λd=>(by cases d),λd=>(by cases d)⟩,⟨λd=>(by cases d),λd=>(by cases d),λd=>(by cases d)⟩,λa=>⟨λd=>(by cases d),λd=>(by cases d)⟩⟩,⟨aD _,aD _,aD _,by simp,T.2.2.1,T.2.2.2⟩⟩;rcases m with m|m|m|m|m
   ·have:=h.2;omega
   ·exact h.1.2 m
   ·cases m
   ·cases m
   ·cases m
  have b0:bf M w W:=(gB aZ).trans (aC k (λ_=>False)) λ_ _ d=>d.elim;have bO:gj (n+1) B W c:=by
   obtain⟨_,_,_,_,_,bT,_⟩:=uS (bH W b0) name;rcases bT with d|⟨a,o,d,h,bM⟩
   ·rw[d]at H;cases H
   ·obtain⟨U,bY⟩:=cB H;exact(bM U c bY).2
  have bL:gj (n+1) (w.heap.size+1) W c:=(dW (n+1)).mono (by omega) bO;have bV:(ms.eraseIdx g).length<=999:=by
   have:=List.length_eraseIdx_le ms g;omega
  have aW:=AQ (b:=j) (b4.later (N:=12) k) bU rfl c bL (a1 c H) ⟨T.1,T.2.1⟩ (λa e=>by have:=R a e;omega) (by omega) (by omega) bV;have bW:Calls Tryz.prog 61 #[.pointer (some ⟨J,0,none⟩),L7 c,.pointer (some ⟨ab,0,none⟩)] W _:=aW;refine bW.mono ?_;rintro d K ⟨f,rfl,aP,aQ,⟨O,aN,aG,aI,aL,ax,aB,am,a6,a7⟩,br⟩;have aV:∀a,kD ab v (.slice none 0 0) (.slice none 0 0) (.slice none 0 0) a->a=ab\/a=v:=λa m=>by
   rcases m with m|m|m|m|m
   ·exact ae m
   ·exact af m
   ·cases m
   ·cases m
   ·cases m
  have ad:bD M w K:=(aZ.trans (aR k M) λ_ _ d=>d).trans (iE aQ) λa h e=>by
   rcases e with e|e
   ·exact e
   ·rcases aV a e with e|e<;>omega
  have ak:=In.offB X V
  have aO:In K.heap.size K 13 i:=((V.below k).mono ca).kee aQ (ak.mono λa h e=>by
   rcases e with e|e
   ·have:=R a e;omega
   ·rcases aV a e with e|e
    ·have:=h.2;omega
    ·exact h.1.2 e)
  have bn:ch (λa=>w.heap.size<a/\a<W.heap.size) 13 i:=ak.mono λa h=>⟨h.1.1,by have:=h.2;omega⟩;refine⟨f,rfl,aQ.mono λa _ e=>?_,λao=>?_,λao=>?_⟩
  ·rcases e with e|e
   ·exact ae e
   ·exact af (aV a e)
  ·obtain⟨bx,cw,cl,ck,bk,bl,cE,cD,cz,C,bo,bp,a5,_⟩:=br ao;have bi:=C.sRow;have bh:=C.pRow;have bd:=C.lRow;have bX:=C.high;have a3:=C.sIn;have a2:=C.pIn;obtain⟨sa,sc,rfl⟩:=lG bi;obtain⟨pa,pc,rfl⟩:=lG bh;obtain⟨ka,kc,rfl⟩:=lG bd;refine⟨_,_,_,_,sa,bk.length,sc,pa,bl.length,pc,ka,bx.links.length,kc,C.box,j,W.heap.size,G,z,I,aO,bn,by omega,ad,aP,⟨O,aN,aG,aI,aL,ax,aB,am,a6,a7⟩,?_⟩;refine⟨A+1+n,bk,bl,⟨rfl,rfl,by rw[<-a5]⟩,bi,bh,by rw[<-a5];exact bd,C.sIs.trans bo,C.pIs.trans bp,λe p=>⟨(a3 e p).1,(a3 e p).2.1,(a3 e p).2.2.mono λa h=>⟨h.1,trivial⟩⟩,λe p=>⟨(a2 e p).1,(a2 e p).2.1,(a2 e p).2.2.mono λa h=>⟨h.1,trivial⟩⟩,λa h=>⟨bX a (af (af h)),trivial⟩⟩
  ·rw[aP]at ao;obtain⟨bz,bB,bC⟩:=Dv ao;refine⟨j,W.heap.size,G,z,I,aO,bn,by omega,ad,aP,⟨O,aN,aG,aI,aL,ax,aB,am,a6,a7⟩,?_⟩;rw[bz,bB,bC];exact kS.none _ _ _
 ·rintro d K (⟨cj,rfl,x⟩|⟨g,i,c,f,sa,sl,sc,pa,pl,pc,ka,kl,kc,rfl,x⟩)
  ·obtain⟨r,cc⟩:=x.out;refine ae ⟨cj,rfl,?_⟩;rcases cc with⟨rfl,an⟩|⟨rfl,q,y⟩|⟨rfl,q,y,ah⟩
   ·exact⟨an,by unfold qR;rw[if_pos an],r⟩
   ·exact⟨by decide,by unfold qR;rw[if_neg (λa=>a q),if_pos y],r⟩
   ·refine⟨by decide,?_,r⟩;have av:ng room l name self next (cn 13 s) (ms.map (cn 13))=none:=by
     unfold ng;rw[ah];rfl
    unfold qR;rw[if_neg (λa=>a q),if_neg (by rw[y];decide),av];rfl
  ·obtain⟨q,y,P,bs,⟨j,aa,G,z,I,aO,ak,bF,ad,aW,⟨O,aN,aG,aI,aL,ax,aB,am,P1,bq⟩,b7⟩,ag,ar⟩:=x.out;have cv:=ad.size;have b9:=ag.size;have b3:(ms.map (cn 13)).eraseIdx g=(ms.eraseIdx g).map (cn 13):=by simp[qY,List.map_take,List.map_drop]
   have av:ng room l name self next (cn 13 s) (ms.map (cn 13))=some {eV room self next (cn 13 s) (cn 13 s) ((ms.eraseIdx g).map (cn 13)) c j with message:=cn 13 i}:=by
    unfold ng;rw[G];simp only[dk];rw[z,b3,Option.map_some,Ko]
   refine af ⟨i,f,sa,sl,sc,pa,pl,pc,ka,kl,kc,rfl,_,g,aa,?_,av,aW,rfl,I,((aO.below ag).mono b9).kee ar (ak.mono λa h d=>by omega),ak.mono λa h=>⟨by omega,h.2⟩,(ad.trans (aR ag M) λ_ _ d=>d).trans (iE ar) λb r d=>by omega,bF,⟨O,aN,aG,aI,aL,ax,aB,am,(P1.later (N:=12) ag).kept (N:=12) (iE ar) λb r _ d=>?_,bq,(Du ..).symm⟩,(b7.kept (aC ag (λ_=>False)) λ_ _ _ _ d=>d).kept ar λa h _ _ d=>by omega⟩
   ·unfold qR;rw[if_neg (λa=>a q),if_neg (by rw[y];decide),av];rfl
   ·rcases r with r|r
    ·have:=R b r;omega
    ·omega
theorem Dc(n:Nat)(x:Tm n):bA n x=0\/bA n x=2\/bA n x=5:=by
 rw[<-iK];unfold xu;split
 ·split
  ·exact af (ae rfl)
  ·exact ae rfl
 ·exact af (af rfl)
section
variable {base pb:Nat} {name:ByteArray} {room:Int} {N n:Nat} {s:Tm (N+1)} {ms:List (Tm (N+1))} {nk:Nat} {M:Nat->Prop} {w:World} {ws:List Wd} {nm:List ByteArray} {sv:Wd} {vs:List Wd} {ma:Option Addr} {mc:Nat} {Mh:Nat->Prop}
theorem cd.putBad(k:cd base pb name room (N+1) s ms [] nk M w ws nm sv vs ma mc Mh)(x:Tm (n+1))(B:In w.heap.size w (n+1) x)(z:ch (λb=>¬M b) (n+1) x)(u:(aq (n+1) x).length<=2097152)(G:nk<=49000)(F:base<=w.heap.size)(o:bA (n+1) x≠0):Calls Tryz.prog 95 #[.pointer (some ⟨pb,0,none⟩),dg (n+1) x] w λe w'=>e=.returned (.tuple #[.agg #[.int .i64 0,.int .i64 0],.int .i64 (bA (n+1) x)])/\Below w.heap.size w w':=by
 obtain⟨_,_,_,I,J,C,D,_⟩:=k.front;have H:=k.names;have l:iG (n+1) x room ws=bA (n+1) x:=by
  unfold iG;rw[if_pos o]
 have t:iG (n+1) x room ws≠6:=by
  rw[l];rcases Dc (n+1) x with e|e|e<;>rw[e]<;>decide
 have p:∀{h:Wd}{c:Int}{f i:World},vT (n+1) x base (PL pb name sv (.slice ma vs.length mc)) room ws nm Mh h c f i->c≠0:=λg=>by
  rw[g.1,l];exact o
 refine(zx pb x.1.1 x.1.2.1 x.1.2.2 x.2.1.1 x.2.2.length x.2.1.2 w (λh c f i=>vT (n+1) x base (PL pb name sv (.slice ma vs.length mc)) room ws nm Mh h c f i) (λ_ _=>False) (λ_ _ _ _=>False) ?_ ?_ ?_).mono ?_
 ·intro f d;have m:=d.size;have q:=k.later d;refine(tg (n+1) x base (PL pb name sv (.slice ma vs.length mc)) room ws nm Mh f q.heap ((B.below d).mono m) (z.mono λb d g=>d (k.inM b g)) u (by omega) C D (by omega) (by omega)).mono ?_;intro e i g;obtain⟨h,c,rfl,a⟩:=wX g;refine⟨h,c,rfl,?_,a⟩;have j:=(a.2.1 (p a)).2;exact⟨j.size,λb _ _ r=>j.block b r⟩
 ·intro K f i L _ a _ _;exact absurd a.1.symm t
 ·intro _ _ _ a;exact a.elim
 ·rintro e w' ⟨h,c,rfl,⟨_,f,i,d,a,y⟩|⟨_,_,_,_,_,_,_,_,_,_,_,a,_⟩⟩
  ·obtain⟨A,j⟩:=a.2.1 (p a);have m:=d.size;have v:c=bA (n+1) x:=a.1.trans l;refine⟨by rw[v,A],(d.trans (j.mono m)).trans ((gB y).below (by have:=j.size;omega) λb E g=>by omega)⟩
  ·exact a.elim
theorem cd.deliverBad(g:cd base pb name room (N+1) s ms [] nk M w ws nm sv vs ma mc Mh)(x:Tm (n+1))(v:In w.heap.size w (n+1) x)(t:ch (λb=>¬M b) (n+1) x)(p:(aq (n+1) x).length<=2097152)(r:nk<=49000)(q:base<=w.heap.size)(k:bA (n+1) x≠0):Calls Tryz.prog 67 #[.pointer (some ⟨pb,0,none⟩),dg (n+1) x] w λe w'=>e=.returned (.int .i64 (if 20<=ms.length then 2 else bA (n+1) x))/\Below w.heap.size w w':=by
 have z:=g.len;obtain⟨A,u⟩:=g.box0;refine(pF pb x.1.1 x.1.2.1 x.1.2.2 x.2.1.1 x.2.2.length x.2.1.2 vs.length mc ma w (λ_ l d f=>l=bA (n+1) x/\Below d.heap.size d f) (λ_ _ _ _ _ _=>False) u ?_ ?_ ?_).mono ?_
 ·intro f a;obtain⟨D,B,C,i,_⟩:=(g.later a).heap.box;exact(PL.cells i).2.2.2.1
 ·intro d a;have h:=a.size;refine((g.later a).putBad x ((v.below a).mono h) t p r (au q h) k).mono ?_;rintro e f ⟨rfl,c⟩;exact⟨(0,0),_,rfl,⟨c.size,λb _ _ j=>c.block b j⟩,rfl,c⟩
 ·rintro y d f ⟨e,_⟩;exact absurd e.symm k
 ·rintro e w' ⟨i,m⟩;by_cases o:20<=vs.length
  ·obtain⟨rfl,a⟩:=i o;exact⟨by rw[if_pos (by omega)],a⟩
  ·obtain⟨y,l,d,f,rfl,a,⟨rfl,c⟩,j,_⟩:=m (by omega);have h:=a.size;exact⟨by rw[if_neg (by omega)],(a.trans (c.mono h)).trans ((j k).mono (by have:=c.size;omega))⟩
end
def j9(n:Nat)(x:Tm n)(room:Int)(s:Tc)(ms:List Tc):Int:=if 20<=ms.length then 2 else if bA n x≠0 then bA n x else if aF n x=false then 5 else if ((s::ms).map (sz 13)).sum+sz n x<=room then 0 else 6
theorem Iy{l:List Tc}(a:∀y∈l,bA 13 y=0):((l.map (cn 13)).map (sz 13)).sum=(l.map (sz 13)).sum:=by
 rw[fu];congr 1;exact iT λy b=>Cm (a y b)
section
variable {base pb:Nat} {name:ByteArray} {room:Int} {n:Nat} {s:Tc} {ms:List Tc} {nk:Nat} {M:Nat->Prop} {w:World} {ws:List Wd} {nm:List ByteArray} {sv:Wd} {vs:List Wd} {ma:Option Addr} {mc:Nat} {Mh:Nat->Prop}
theorem cd.deliverC(f:cd base pb name room 13 s ms [] nk M w ws nm sv vs ma mc Mh)(x:Tm (n+1))(C:In w.heap.size w (n+1) x)(B:ch (λb=>¬M b) (n+1) x)(J:(aq (n+1) x).length<=2097152)(I:∀b,M b->b<w.heap.size)(A:nk<=49000)(G:ms.length<=999)(v:base<=w.heap.size):Calls Tryz.prog 67 #[.pointer (some ⟨pb,0,none⟩),dg (n+1) x] w λe w'=>e=.returned (.int .i64 (j9 (n+1) x room (cn 13 s) (ms.map (cn 13))))/\Hid (∃D q m o p k l h,cd base pb name room 13 s D [] (nk+201) (λb=>M b\/w.heap.size<=b) w' q m o p k l h/\bD M w w'/\D.map (cn 13)=if j9 (n+1) x room (cn 13 s) (ms.map (cn 13))=0 then ms.map (cn 13)++ [cn (n+1) x]else ms.map (cn 13)):=by
 have L:∀r∈s::ms,bA 13 r=0:=λr Q=>((f.front (N:=12)).2.2.1 r Q).1;have O:((cn 13 s::ms.map (cn 13)).map (sz 13)).sum=((s::ms).map (sz 13)).sum:=Iy L;by_cases a:bA (n+1) x=0
 ·have j:aB ⟨n+1,x⟩:=aJ.2 (bv.1 a).1;have i:eW (n+1) x<13:=by have:=(bv.1 a).2.1;omega
  have g:=iF 13 (n+1) x j i;have y:bA 13 (aI 13 (n+1) x)=0:=(bI g).trans a;have z:=f.deliver (N:=12) (aI 13 (n+1) x) (qH 13 (n+1) x _ _ j i C) (sf 13 (n+1) x _ j i B) (eU y) I A G v;have d:wC 13 (aI 13 (n+1) x) room s ms=j9 (n+1) x room (cn 13 s) (ms.map (cn 13)):=by
   unfold wC j9 qJ;rw[O,dO,y,a,cw _ _ _ _ g,kO _ _ _ _ g]
  have P:dg (12+1) (aI (12+1) (n+1) x)=dg (n+1) x:=wL 12 n x;rw[P]at z;refine z.mono ?_;rintro e w' ⟨rfl,E⟩;obtain⟨q,m,o,p,k,l,h,F,K⟩:=E.out;refine⟨congrArg (λS=>Ending.returned (.int .i64 S)) d,_,q,m,o,p,k,l,h,F,K,?_⟩;have H:wC (12+1) (aI (12+1) (n+1) x) room s ms=j9 (n+1) x room (cn 13 s) (ms.map (cn 13)):=d;rw[H];by_cases c:j9 (n+1) x room (cn 13 s) (ms.map (cn 13))=0
  ·rw[if_pos c,if_pos c,ft];congr 1;exact congrArg (λt=> [t]) (gw g)
  ·rw[if_neg c,if_neg c]
 ·have d:j9 (n+1) x room (cn 13 s) (ms.map (cn 13))=if 20<=ms.length then 2 else bA (n+1) x:=by
    unfold j9;rw[dO,if_pos a]
  have c:j9 (n+1) x room (cn 13 s) (ms.map (cn 13))≠0:=by
   rw[d];split
   ·decide
   ·exact a
  refine(f.deliverBad (N:=12) x C B J A v a).mono ?_;rintro e w' ⟨rfl,u⟩;refine⟨by rw[d],ms,ws,nm,sv,vs,ma,mc,Mh,(f.later (N:=12) u).mono (N:=12) (λb R=>ae R) (by omega),aR u M,?_⟩;rw[if_neg c]
end
theorem Gd{n:Nat}{x:Tm (n+1)}(room:Int)(name:ByteArray)(b:bA (n+1) x=0):eZ 13 (aI 13 (n+1) x) room name=eZ (n+1) x room name:=by
 have d:aB ⟨n+1,x⟩:=aJ.2 (bv.1 b).1;have c:eW (n+1) x<13:=by have:=(bv.1 b).2.1;omega
 have a:=iF 13 (n+1) x d c;unfold eZ iG;rw[bI a,cw _ _ _ _ a,kO _ _ _ _ a]
theorem Lv(n:Nat)(x:Tm (n+1))(room:Int)(name:ByteArray)(w:World)(m:name.size<=9223372036854775807)(o:In w.heap.size w (n+1) x)(q:(aq (n+1) x).length<=2097152):Calls Tryz.prog 31 #[.string name,dg (n+1) x,.int .i64 room] w λe w'=>(eZ (n+1) x room name≠0->e=.returned (.tuple #[.pointer none,.int .i64 (eZ (n+1) x room name)])/\Below w.heap.size w w')/\ (eZ (n+1) x room name=0->∃d,e=.returned (.tuple #[.pointer (some ⟨d,0,none⟩),.int .i64 0])/\Hid (w.heap.size<=d/\Below w.heap.size w w'/\bA (n+1) x=0/\∃s ws nm h Mh,cn 13 s=cn (n+1) x/\cd w.heap.size d name room 13 s [] [] 201 (λb=>w.heap.size<=b/\b<w'.heap.size) w' ws nm h [] none 0 Mh)):=by
 by_cases c:bA (n+1) x=0
 ·have k:aB ⟨n+1,x⟩:=aJ.2 (bv.1 c).1;have j:eW (n+1) x<13:=by have:=(bv.1 c).2.1;omega
  have l:=iF 13 (n+1) x k j;have r:bA 13 (aI 13 (n+1) x)=0:=(bI l).trans c;have i:=zu 12 (aI 13 (n+1) x) room name w m (qH 13 (n+1) x _ _ k j o) (eU r);have u:dg (12+1) (aI (12+1) (n+1) x)=dg (n+1) x:=wL 12 n x;rw[u]at i;refine i.mono ?_;rintro e w' ⟨f,g⟩;have t:eZ (12+1) (aI (12+1) (n+1) x) room name=eZ (n+1) x room name:=Gd room name c;rw[t]at f g;refine⟨f,λa=>?_⟩;obtain⟨d,rfl,p⟩:=g a;obtain⟨v,y,ws,nm,h,Mh,z⟩:=p.out;exact⟨d,rfl,v,y,c,_,ws,nm,h,Mh,gw l,z⟩
 ·refine(zu n x room name w m o q).mono ?_;rintro e w' ⟨f,g⟩;refine⟨f,λa=>?_⟩;unfold eZ at a;split at a
  ·cases a
  ·split at a
   ·cases a
   ·unfold iG at a;rw[if_pos c]at a;exact absurd a c
def P1(e l:Nat)(name:ByteArray)(room:Int)(cs:Tc)(g:List Tc)(k:Nat)(M:Nat->Prop)(w:World):Prop:=
 ∃a d c o j m n h i f,cd a l name room 13 d c [] k M w o j m n h i f/\(cn 13 d=cs/\c.map (cn 13)=g)/\a<=w.heap.size/\∀b,M b->e<=b/\b<w.heap.size
section
variable {B0 pb:Nat} {name:ByteArray} {room:Int} {cs:Tc} {cms:List Tc} {k:Nat} {M:Nat->Prop} {w:World}
theorem P1.later(g:P1 B0 pb name room cs cms k M w){w1:World}(c:Below w.heap.size w w1):P1 B0 pb name room cs cms k M w1:=by
 obtain⟨f,o,m,r,n,p,q,j,l,e,h,i,s,a⟩:=g;have t:=c.size;exact⟨f,o,m,r,n,p,q,j,l,e,h.later (N:=12) c,i,by omega,λb d=>⟨(a b d).1,by have:=(a b d).2;omega⟩⟩
theorem P1.kept(g:P1 B0 pb name room cs cms k M w){S:Nat->Prop}{w1:World}(d:bD S w w1)(j:∀b,M b->¬S b):P1 B0 pb name room cs cms k M w1:=by
 obtain⟨f,p,n,s,o,q,r,l,m,e,h,i,t,c⟩:=g;have u:=d.size;exact⟨f,p,n,s,o,q,r,l,m,e,h.kept (N:=12) d λb a _=>j b a,i,by omega,λb a=>⟨(c b a).1,by have:=(c b a).2;omega⟩⟩
def mM(M:Nat->Prop)(w w':World)(b:Nat):Prop:=(M b\/w.heap.size<=b)/\b<w'.heap.size
theorem P1.deliver(j:P1 B0 pb name room cs cms k M w){n:Nat}(x:Tm (n+1))(t:In w.heap.size w (n+1) x)(s:ch (λb=>¬M b) (n+1) x)(q:(aq (n+1) x).length<=2097152)(r:k<=49000)(m:cms.length<=999)(G:B0<=w.heap.size):Calls Tryz.prog 67 #[.pointer (some ⟨pb,0,none⟩),dg (n+1) x] w λe w'=>e=.returned (.int .i64 (j9 (n+1) x room cs cms))/\Hid (bD M w w'/\P1 B0 pb name room cs (if j9 (n+1) x room cs cms=0 then cms++ [cn (n+1) x]else cms) (k+201) (mM M w w') w'):=by
 obtain⟨i,A,J,P,K,L,O,H,I,E,l,⟨rfl,rfl⟩,c,d⟩:=j;refine(l.deliverC x t s q (λb a=>(d b a).2) r (by simpa using m) c).mono ?_;rintro e w' ⟨rfl,h⟩;obtain⟨y,D,z,B,C,u,v,F,o,f,p⟩:=h.out;refine⟨rfl,f,i,A,y,D,z,B,C,u,v,_,o.inside (N:=12),⟨rfl,p⟩,au c f.size,λb a=>⟨?_,a.2⟩⟩;rcases a.1 with g|g
 ·exact(d b g).1
 ·omega
theorem P1.state(d:P1 B0 pb name room cs cms k M w)(g:k<=50000):Calls Tryz.prog 24 #[.pointer (some ⟨pb,0,none⟩)] w λe w'=>∃y:Tc,e=.returned (dg 13 y)/\Hid (Below w.heap.size w w'/\In w'.heap.size w' 13 y/\ch (λq=>w.heap.size<=q) 13 y/\bA 13 y=0/\cn 13 y=cs):=by
 obtain⟨l,h,r,v,s,t,u,o,p,j,a,⟨rfl,rfl⟩,m,n⟩:=d;have f:=(a.front (N:=12)).2.2.1 h (by simp);refine(a.state (N:=12) g).mono ?_;rintro e w' ⟨y,rfl,c⟩;obtain⟨y1,y2,i,b⟩:=c.out;exact⟨y,rfl,y1,y2,i,(bI b).trans f.1,gw b⟩
end
section
variable {B0 pb:Nat} {name:ByteArray} {room:Int} {cs:Tc} {cms:List Tc} {k:Nat} {M:Nat->Prop} {w:World}
theorem P1.mono(f:P1 B0 pb name room cs cms k M w){M':Nat->Prop}{c a:Nat}(j:∀b,M b->M' b)(m:k<=c)(l:∀b,M' b->a<=b/\b<w.heap.size):P1 a pb name room cs cms c M' w:=by
 obtain⟨e,r,p,u,q,s,t,n,o,d,g,h,i,_⟩:=f;exact⟨e,r,p,u,q,s,t,n,o,d,g.mono (N:=12) j m,h,i,l⟩
def L0(B0 pb:Nat)(name:ByteArray)(room:Int)(cs:Tc)(cms:List Tc)(k:Nat)(M:Nat->Prop)(n:Nat)(l:List (Bh (n+1)))(self next:Int)(w:World)(e:Ending)(w':World):Prop:=
 (∃g,e=.returned (.tuple #[Js,.int .i64 g])/\Hid (g≠0/\g=qR n room l name self next cs cms/\Below w.heap.size w w'))\/
  ∃(a:Tc)(f:Int)(sa:Option Addr)(sl sc:Nat)(pa:Option Addr)(pl pc:Nat)(ka:Option Addr)(kl kc:Nat),e=.returned (.tuple #[KY a.1.1 a.1.2.1 a.1.2.2 a.2.1.1 a.2.2.length a.2.1.2 f sa sl sc pa pl pc ka kl kc,.int .i64 0])/\Hid (∃c d,qR n room l name self next cs cms=0/\ng room l name self next cs cms=some c/\f=c.fate/\cn 13 a=c.message/\bA 13 a=0/\In w'.heap.size w' 13 a/\ch (λh=>w.heap.size<=h/\h<d) 13 a/\bD M w w'/\w.heap.size<d/\
   P1 B0 pb name room c.state c.mail (k+402) (λb=>(M b\/d<=b)/\b<w'.heap.size) w'/\c.mail.length<=cms.length/\kS (w.heap.size+1) c.sends c.spawns c.links sa sl sc pa pl pc ka kl kc (λ_=>True) w')
theorem P1.step(D:P1 B0 pb name room cs cms k M w){n:Nat}(l:List (Bh (n+1)))(a:Option Addr)(c B:Nat)(K:fx (n+1) B w a l)(G:B<=w.heap.size)(L:l.length<=c)(O:c<=maxLen)(H:jy (n+1) l=true->(aq (n+6) (cR n l)).length<=2097152)(I:∀W,bf M w W->fx (n+1) B W a l)(ai:B0<=w.heap.size)(J:k<=47000)(F:cms.length<=999)(self next:Int):Calls Tryz.prog 34 #[.pointer (some ⟨pb,0,none⟩),.slice a l.length c,.int .i64 self,.int .i64 next] w (L0 B0 pb name room cs cms k M n l self next w):=by
 obtain⟨C,am,S,ar,al,an,ao,aj,ak,ad,E,⟨rfl,rfl⟩,i,j⟩:=D;refine(E.step l a c B K G L O H (λb d=>(j b d).2) I J (by simpa using F) i self next).mono ?_;rintro ah ap (⟨Y,rfl,e⟩|⟨ab,f,sa,sl,sc,pa,pl,pc,ka,kl,kc,rfl,e⟩)
 ·exact ae ⟨Y,rfl,e.out⟩
 ·obtain⟨X,P,o,p,r,s,t,u,v,x,g,y,⟨U,aa,T,V,Z,Q,R,ag,z,A,h⟩,q⟩:=e.out;refine af ⟨ab,f,sa,sl,sc,pa,pl,pc,ka,kl,kc,rfl,X,o,p,r,s,t,u,v,x,g,y,⟨C,U,_,aa,T,V,Z,Q,R,_,z.inside (N:=12),⟨A,h⟩,au i g.size,λb d=>⟨?_,d.2⟩⟩,?_,q⟩
  ·rcases d.1 with m|m
   ·exact(j b m).1
   ·omega
  ·rw[<-h,dO,dO];exact List.length_eraseIdx_le S P
end
theorem P1.new(n:Nat)(x:Tm (n+1))(room:Int)(name:ByteArray)(w:World)(m:name.size<=9223372036854775807)(o:In w.heap.size w (n+1) x)(k:(aq (n+1) x).length<=2097152):Calls Tryz.prog 31 #[.string name,dg (n+1) x,.int .i64 room] w λe w'=>∃p:Option Addr,e=.returned (.tuple #[.pointer p,.int .i64 (eZ (n+1) x room name)])/\Hid (Below w.heap.size w w'/\(eZ (n+1) x room name≠0->p=none)/\(eZ (n+1) x room name=0->∃a,p=some ⟨a,0,none⟩/\w.heap.size<=a/\bA (n+1) x=0/\P1 w.heap.size a name room (cn (n+1) x) [] 201 (λb=>w.heap.size<=b/\b<w'.heap.size) w')):=by
 refine(Lv n x room name w m o k).mono ?_;rintro e w' ⟨i,j⟩;by_cases c:eZ (n+1) x room name=0
 ·obtain⟨a,rfl,g⟩:=j c;obtain⟨q,f,r,v,z,u,y,h,s,t⟩:=g.out;exact⟨some ⟨a,0,none⟩,by rw[c],f,λd=>absurd c d,λ_=>⟨a,rfl,q,r,w.heap.size,v,[],z,u,y,[],none,0,h,t,⟨s,rfl⟩,f.size,λb d=>d⟩⟩
 ·obtain⟨rfl,l⟩:=i c;exact⟨none,rfl,l,λ_=>rfl,λd=>absurd d c⟩
structure BL where
 b:Nat
 o:Nat
 c:Array Value
 t:TypeId
def rI(p:BL)(a:Option Nat)(w:World):Prop:=(p.o<p.c.size/\p.t≠30)/\w.heap[p.b]?=some (.cells (p.c.setIfInBounds p.o (.map a)) p.t (0,0))
theorem rI.cell{p:BL}{c:Option Nat}{w:World}(a:rI p c w):w.cell? ⟨p.b,p.o,none⟩=some (.map c)/\∀j,w.frozen? ⟨p.b,j,none⟩=false:=by
 refine⟨?_,λj=>by simp[World.frozen?,a.2]⟩;simp[World.cell?,a.2,a.1.1]
theorem rI.lt{p:BL}{c:Option Nat}{w:World}(a:rI p c w):p.b<w.heap.size:=(aE.1 a.2).1
theorem rI.kept{p:BL}{c:Option Nat}{w w':World}(a:rI p c w)(d:w'.heap[p.b]?=w.heap[p.b]?):rI p c w':=⟨a.1,d.trans a.2⟩
theorem rI.set{p:BL}{c mo':Option Nat}{w:World}(a:rI p c w):rI p mo' (w.setCell ⟨p.b,p.o,none⟩ (.map mo')):=by
 refine⟨a.1,?_⟩;simp[World.setCell,bJ,a.2]
def gt(base:Nat)(d:BL)(a:Option Nat)(n N:Nat)(f:Int×Int->List (Tm N))(sl:Int×Int->Value)(w:World):Prop:=
 base<=d.b/\rI d a w/\((a=none/\f=(λ_=> [])/\sl=λ_=>lw)\/∃c,a=some c/\GM base c n N f sl w)
def qg(c:BL)(a:Option Nat)(sl:Int×Int->Value)(b:Nat):Prop:=b=c.b\/a=some b\/∃k,I2 k/\(sl k).ownBlock=some b
variable {base n N:Nat} {wp:BL} {mo:Option Nat} {f:Int×Int->List (Tm N)} {sl:Int×Int->Value} {w:World}
theorem gt.lt(c:gt base wp mo n N f sl w)(b:Nat)(a:qg wp mo sl b):base<=b/\b<w.heap.size:=by
 obtain⟨d,e,g⟩:=c;rcases a with rfl|a
 ·exact⟨d,e.lt⟩
 ·rcases g with⟨rfl,_,rfl⟩|⟨i,rfl,h⟩
  ·rcases a with a|⟨k,_,a⟩
   ·cases a
   ·simp[lw,Value.ownBlock]at a
  ·refine h.lt b ?_;rcases a with a|a
   ·exact ae (ap a).symm
   ·exact af a
theorem Cv{wp:BL}{c b:Nat}{sl:Int×Int->Value}(a:JM c sl b):qg wp (some c) sl b:=by
 rcases a with rfl|a
 ·exact af (ae rfl)
 ·exact af (af a)
theorem gt.kee{S:Nat->Prop}{w':World}(c:gt base wp mo n N f sl w)(k:bf S w w')(d:∀b,qg wp mo sl b->¬S b):gt base wp mo n N f sl w':=by
 have j:=(c.lt wp.b (ae rfl)).2;obtain⟨e,g,a⟩:=c;refine⟨e,g.kept (k.block wp.b j (d wp.b (ae rfl))),?_⟩;rcases a with a|⟨l,rfl,i⟩
 ·exact ae a
 ·exact af ⟨l,rfl,i.kee k λb h=>d b (Cv h)⟩
theorem gt.later{w':World}(a:gt base wp mo n N f sl w)(k:Below w.heap.size w w'):gt base wp mo n N f sl w':=a.kee (aC k λ_=>False) λ_ _ b=>b
theorem gt.row(a:gt base wp mo n N f sl w){k:Int×Int}(c:I2 k):mG base N (sl k) (f k) w:=by
 rcases a.2.2 with⟨_,rfl,rfl⟩|⟨d,_,b⟩
 ·exact⟨by simp[dd,cO],ae ⟨rfl,rfl⟩⟩
 ·exact b.row k c
theorem gt.look(b:gt base wp mo n N f sl w){k:Int×Int}(a:I2 k):(Instr.lookup 66 (.map mo) (pk k) false).run Tryz.prog w=.ok (sl k) w:=by
 rcases b.2.2 with⟨rfl,_,rfl⟩|⟨d,rfl,c⟩
 ·exact DK w a
 ·exact c.look a
theorem gt.cell(a:gt base wp mo n N f sl w):w.cell? ⟨wp.b,wp.o,none⟩=some (.map mo)/\∀j,w.frozen? ⟨wp.b,j,none⟩=false:=by
 exact a.2.1.cell
theorem mG.sliced{v:Value}{l:List (Tm N)}(d:mG base N v l w):∃a c,v=.slice a l.length c:=by
 rcases d.2 with⟨rfl,b⟩|⟨f,cap,e,rfl,_⟩
 ·exact⟨none,0,by rw[b]⟩
 ·exact⟨_,_,rfl⟩
theorem EQ(c:gt base wp mo n N f sl w){a b:Int}(g:I2 (a,b)):Calls Tryz.prog 125 #[.pointer (some ⟨wp.b,wp.o,none⟩),.int .i64 a,.int .i64 b] w λe w'=>e=.returned (.int .i64 (f (a,b)).length)/\w'=w:=by
 have i:=c.cell.1;obtain⟨sa,sc,h⟩:=(c.row g).sliced;have d:=c.look g;rw[h]at d;unfold pk at d;simp only at d;clear c;go_enter Tryz.func125,Tryz.ntmps125;go_wp2_with fail
 go_ret
 exact⟨rfl,rfl⟩
theorem CC(a:Int)(w:World):Calls Tryz.prog 124 #[.int .i64 a] w λe w'=>e=.returned (.bool (decide (1<=a) && decide (a<=99)))/\w'=w:=by
 go_enter Tryz.func124,Tryz.ntmps124;by_cases b:1<=a<;>by_cases c:a<=99
 all_goals
  go_wp2_with fail
  go_ret
  simp[b,c]
variable {base mb n N:Nat} {f:Int×Int->List (Tm N)} {sl:Int×Int->Value} {w wr:World}
def J0(base mb n N:Nat)(f:Int×Int->List (Tm N))(sl:Int×Int->Value)(k:Int×Int)(g:Nat)(W e:World):Prop:=
 ∀(a:World)(c:Value)(l:List (Tm N)),a.heap[mb]?=e.heap[mb]? ->bf (λb=>b=mb\/(sl k).ownBlock=some b) W a->l≠[]->mG base N c l a->(∀b,c.ownBlock=some b->(sl k).ownBlock=some b\/W.heap.size<=b)->
  ∃d,(Instr.entryStore 66 (.map (some mb)) (goInt g) c).run Tryz.prog a=.ok () d/\GM base mb (n+1) N (fT f k l) (fT sl k c) d/\bf (λb=>b=mb) a d/\d.heap.size=a.heap.size
def LV(base mb n N:Nat)(f:Int×Int->List (Tm N))(sl:Int×Int->Value)(k:Int×Int)(y:Tm N)(wr c:World):Prop:=
 ∃a,GM base mb (n+1) N (fT f k (f k++ [y])) (fT sl k a) c/\bf (JM mb sl) wr c/\∀b,JM mb (fT sl k a) b->JM mb sl b\/wr.heap.size<=b
theorem GM.open(d:GM base mb n N f sl wr){k:Int×Int}(h:I2 k)(i:n<1000000){W:World}(e:Below wr.heap.size wr W):∃(c:Nat)(a:World),(Instr.mapEntry 66 (.map (some mb)) (pk k)).run Tryz.prog W=.ok (.tuple #[sl k,goInt c]) a/\bf (λb=>b=mb) W a/\a.heap.size=W.heap.size/\J0 base mb n N f sl k c W a:=
 (d.kee (aC e λ_=>False) λ_ _ g=>g).entry h i
theorem J0.done(o:GM base mb n N f sl wr){k:Int×Int}(s:I2 k){w L:Nat}{W h j e:World}(B:J0 base mb n N f sl k w W h)(q:Below wr.heap.size wr W)(J:bf (λb=>b=mb) W h)(M:h.heap.size=W.heap.size)(l:Below h.heap.size h j)(D:j.grownBy e (sl k).ownBlock){g c:Nat}{y:Tm N}(z:(f k).length=L)(F:e.ownsRow base 30 4 (.slice (some ⟨g,0,none⟩) (L+1) c) (L+1) (dd N (f k)++vj (iv N y)))(A:(sl k).ownBlock=some g\/g=j.heap.size):∃i,(Instr.entryStore 66 (.map (some mb)) (goInt w) (.slice (some ⟨g,0,none⟩) (L+1) c)).run Tryz.prog e=.ok () i/\LV base mb n N f sl k y wr i/\bf (λb=>b=mb) e i/\i.heap.size=e.heap.size:=by
 subst z;have K:=o.lt mb (ae rfl);have P:=q.size;have O:=l.size;have v:=dS D;have I:(Value.slice (some ⟨g,0,none⟩) ((f k).length+1) c).ownBlock=some g:=rfl;have u:∀b,(Value.slice (some ⟨g,0,none⟩) ((f k).length+1) c).ownBlock=some b->(sl k).ownBlock=some b\/W.heap.size<=b:=λb d=>by
  rw[I]at d;injection d with d;subst d;rcases A with a|a
  ·exact ae a
  ·exact af (by omega)
 have p:bf (λb=>b=mb\/(sl k).ownBlock=some b) W e:=by
  refine bf.trans (bf.trans (J.mono λb _ a=>ae a) (aC l λ_=>False) λ_ _ C=>C.elim) v λb _ a=>af a
 have E:e.heap[mb]?=h.heap[mb]? :=(v.block mb (by omega) (o.ne s)).trans (l.block mb (by omega))
 obtain⟨i,G,x,t,H⟩:=B e _ (f k++ [y]) E p (by simp) (by
  unfold mG;rw[oy,aX];have a:dd N [y]=vj (iv N y):=by simp[dd,cO]
  rw[a]
  exact F) u
 refine⟨i,G,⟨_,x,?_,λb d=>?_⟩,t,H⟩
 ·refine bf.trans (bf.trans (aC q _) (p.mono (T:=λb=>b=mb\/(sl k).ownBlock=some b) λb _ a=>a) λb _ a=>?_) t λb _ a=>ae a;rcases a with a|a
  ·exact ae a
  ·exact af ⟨k,s,a⟩
 ·rcases d with d|⟨m,r,d⟩
  ·exact ae (ae d)
  ·by_cases a:m=k
   ·subst a;rw[cr]at d;rcases u b d with a|a
    ·exact ae (af ⟨m,r,a⟩)
    ·exact af (by omega)
   ·rw[bC _ _ a]at d;exact ae (af ⟨m,r,d⟩)
section
variable {ops:Array Oper} {o:Oper} {a:Act} {K:Act->World->Prop} {Q:Exit->Act->World->Prop} {E:Prop}
end
end Go.Proofs.YtnidfceinoiboaaGreat
